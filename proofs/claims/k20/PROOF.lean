import PyProof.Rows.All
import Wide.All
import OpenK.AllK
import Wide.FinOn
import Lean
import PyProof.EqAt
import PyProof.EqKinds
import PyProof.TupleCall
import PyProof.ReprLen
import PyProof.ReprRoads
import PyProof.P3Eq
import PyProof.SetRoads
import PyProof.IsRules
import PyProof.ListRange
import PyProof.ConsumeWalk
import PyProof.NeKinds
import PyProof.DictTable
import PyProof.Draws
import PyProof.EnumMake
import KE.BitLaws
import KE.KIntText
import KE.KRevIter
import PyProof.Rows.SumAny
import PyProof.StrLawsRepr
import PyProof.Rows.SortStrRead
import PyProof.DictCompW
import PyProof.StrOps2
import PyProof.DictWalks
import OpenK.KOwn
import PyProof.NsDelKeeps
import PyProof.RulesAs
import KE.KIsAll
import PyProof.ExcArgsOwn
import PyProof.ExcAttrAll.ValueError
import PyProof.TupleKey
import PyProof.DictRoadsH
import KE.KSortTup
import KE.KDictSum
import PyProof.Rows.TupDisplay
import PyProof.ZipIter
import PyProof.FactsAll.tuple_1
import PySem.Challenge.RW_opencells_k20_whole_standing_goes_on
set_option Elab.async false
set_option maxHeartbeats 4000000
set_option maxRecDepth 100000
set_option linter.unusedSimpArgs false
set_option linter.unusedVariables false
theorem qme {α:Type _}{l:List α}{i:Nat}{a:α}(h:l[i]? = some a):∃h:i<l.length,l[i]=a:=List.getElem?_eq_some_iff.mp h
theorem qge {α:Type _}{l:List α}{i:Nat}(h:i<l.length):l[i]? = some l[i]:=List.getElem?_eq_getElem h
noncomputable abbrev QFg:=PySem.W.Frag
theorem qps {h:PySem.Heap}{a:PySem.Addr}{o1:PySem.Obj}(o:PySem.Obj) (e:h.get? a=some o1):(h.push o).get? a=some o1:=PySem.Heap.get?_push_of_some o e
theorem qlm {α β:Type _}{as:List α}(f:α->β):(as.map f).length=as.length:=List.length_map f
theorem qgm {α β:Type _}{f:α->β}{l:List α}{i:Nat}:(l.map f)[i]? = l[i]?.map f:=List.getElem?_map
theorem qoi {α:Type _}{a b:α}(h:some a=some b):a=b:=Option.some.inj h
theorem qem {α:Type _}{l:List α}{n:Nat}(h:n<l.length):l[n]∈l:=List.getElem_mem h
theorem qmg {α:Type _}{l:List α}{i:Nat}{a:α}(e:l[i]? = some a):a∈l:=List.mem_of_getElem? e
theorem qlr (n:Nat):n<=n:=Nat.le_refl n
theorem qla {α:Type _}{as bs:List α}:(as++bs).length=as.length+bs.length:=List.length_append
theorem qaa {α:Type _}(as bs cs:List α):(as++bs)++cs=as++(bs++cs):=List.append_assoc as bs cs
namespace TS
open PySem PySem.SetTable
noncomputable def F:Nat->Nat->Nat
 | 0,x=>x
 | n+1,x=>5*F n x+1
theorem zm1 (a:Nat):∀(b x:Nat),F (a+b) x=F a (F b x):=by
 induction a with
 | zero=>intro b x;rw [Nat.zero_add];rfl
 | succ a ih=>intro b x;rw [show a+1+b=(a+b)+1 by omega];show 5*F (a+b) x+1=5*F a (F b x)+1;rw [ih]
theorem zsu (k:Nat):∃u,∀x,F (2 ^ k) x=(4*(2 ^ k*(2*u+1))+1)*x+2 ^ k*(2*u+1):=by
 induction k with
 | zero=>exact ⟨0,fun x=>by show 5*x+1=_;omega⟩
 | succ k ih =>
  obtain ⟨u,h⟩:=ih
  generalize hB:2 ^ k*(2*u+1)=B at h
  refine ⟨2*u*B+u+B,fun x=>?_⟩
  have e:2 ^ (k+1)=2 ^ k+2 ^ k:=by rw [Nat.pow_succ];omega
  rw [show F (2 ^ (k+1)) x=F (2 ^ k) (F (2 ^ k) x) by rw [e];exact zm1 _ _ _,h,h]
  have e2:2 ^ (k+1)*(2*(2*u*B+u+B)+1)=2*B*(2*B+1):=by
   rw [Nat.pow_succ,←hB]
   generalize 2 ^ k=p
   grind
  rw [e2]
  clear e2 h hB
  grind
theorem zsv {M a b:Nat}(hM:0<M) (h:a % M=b % M) (h2:a % (2*M)≠b % (2*M)):(a+M) % (2*M)=b % (2*M):=by
 have key:∀x,x % (2*M)=x % M∨x % (2*M)=x % M+M:=fun x=>by
  have e1:x % (2*M)<2*M:=Nat.mod_lt _ (by omega)
  have e2:x % (2*M) % M=x % M:=Nat.mod_mod_of_dvd x ⟨2,Nat.mul_comm _ _⟩
  by_cases hl:x % (2*M)<M
  ·left;rw [←e2,Nat.mod_eq_of_lt hl]
  ·right
   have e3:x % (2*M) % M=(x % (2*M)-M) % M:=Nat.mod_eq_sub_mod (by omega)
   have e4:(x % (2*M)-M) % M=x % (2*M)-M:=Nat.mod_eq_of_lt (by omega)
   rw [←e2,e3,e4];omega
 have hb:=Nat.mod_lt b hM
 rw [Nat.add_mod,Nat.mod_eq_of_lt (show M<2*M by omega)]
 rcases key a with ha|ha <;> rcases key b with hb2|hb2
 ·omega
 ·rw [ha,Nat.mod_eq_of_lt (by omega)];omega
 ·rw [ha,hb2,show a % M+M+M=a % M+2*M by omega,Nat.add_mod_right,Nat.mod_eq_of_lt (by omega)];omega
 ·omega
theorem zsw (k:Nat):∀x y:Nat,∃n,n<2 ^ k/\F n x % 2 ^ k=y % 2 ^ k:=by
 induction k with
 | zero=>intro x y;exact ⟨0,by decide,by simp [Nat.mod_one]⟩
 | succ k ih =>
  intro x y
  obtain ⟨n,hn,h⟩:=ih x y
  have e:2 ^ (k+1)=2*2 ^ k:=by rw [Nat.pow_succ,Nat.mul_comm]
  have hM:0<2 ^ k:=Nat.two_pow_pos k
  rw [e]
  by_cases h2:F n x % (2*2 ^ k)=y % (2*2 ^ k)
  ·exact ⟨n,by omega,h2⟩
  ·refine ⟨2 ^ k+n,by omega,?_⟩
   obtain ⟨u,hl⟩:=zsu k
   rw [zm1,hl]
   generalize F n x=z at h h2
   generalize 2 ^ k=M at *
   have e3:(4*(M*(2*u+1))+1)*z+M*(2*u+1)=z+M+2*M*(u+2*z*(2*u+1)):=by
    grind
   rw [e3,Nat.add_mul_mod_self_left]
   exact zsv hM h h2
noncomputable def adv (mask:Nat) (p:Probe):Probe :=
 if p.more > 0 then { p with j:=p.j+1,more:=p.more-1 } else
 let (i,perturb):=leap mask p.i p.perturb
 { p with j:=i,more:=runEnd mask i-i,i,perturb }
theorem zsx (t:SetTable) (p:Probe):t.advance p=adv t.mask p:=rfl
noncomputable def st0 (mask:Nat) (h:Int):Probe:={ j:=bits h % (mask+1),more:=runEnd mask (bits h % (mask+1))-bits h % (mask+1),i:=bits h % (mask+1),perturb:=bits h,dummy:=none }
noncomputable def pn (mask:Nat) (h:Int):Nat->Probe
 | 0=>st0 mask h
 | n+1=>adv mask (pn mask h n)
noncomputable def bl (mask:Nat) (h:Int):Nat->Nat × Nat
 | 0=>(bits h % (mask+1),bits h)
 | n+1=>leap mask (bl mask h n).1 (bl mask h n).2
noncomputable def ss (mask:Nat) (h:Int):Nat->Nat
 | 0=>0
 | n+1=>ss mask h n+(runEnd mask (bl mask h n).1-(bl mask h n).1)+1
noncomputable def blk (mask:Nat) (b:Nat × Nat):Probe:={ j:=b.1,more:=runEnd mask b.1-b.1,i:=b.1,perturb:=b.2,dummy:=none }
theorem zkl {mask:Nat}{h:Int}{s:Nat}{b:Nat × Nat}(e:pn mask h s=blk mask b):∀d,d<=runEnd mask b.1-b.1->pn mask h (s+d)={ j:=b.1+d,more:=runEnd mask b.1-b.1-d,i:=b.1,perturb:=b.2,dummy:=none }
 | 0,_=>by rw [Nat.add_zero,e];rfl
 | d+1,hd=>by
  show adv mask (pn mask h (s+d))=_
  rw [zkl e d (by omega)]
  unfold adv
  rw [if_pos (by show runEnd mask b.1-b.1-d > 0;omega)]
  simp only [Probe.mk.injEq,and_true]
  exact ⟨by omega,by omega⟩
theorem zkm (mask:Nat) (h:Int):∀n,pn mask h (ss mask h n)=blk mask (bl mask h n)
 | 0=>rfl
 | n+1=>by
  have e:=zkl (zkm mask h n) (runEnd mask (bl mask h n).1-(bl mask h n).1) (qlr _)
  show adv mask (pn mask h (ss mask h n+(runEnd mask (bl mask h n).1-(bl mask h n).1)))=_
  rw [e]
  unfold adv
  rw [if_neg (by show ¬(runEnd mask (bl mask h n).1-(bl mask h n).1-(runEnd mask (bl mask h n).1-(bl mask h n).1)) > 0;omega)]
  rfl
theorem zsy (mask i:Nat):runEnd mask i-i<=9:=by unfold runEnd;split <;> omega
theorem zm2 (mask:Nat) (h:Int):∀n,ss mask h n<=10*n
 | 0=>qlr _
 | n+1=>by have:=zm2 mask h n;have:=zsy mask (bl mask h n).1;show ss mask h n+_+1<=_;omega
theorem zm3 (mask:Nat) (h:Int):∀n,(bl mask h n).2=bits h / 32 ^ n
 | 0=>by show bits h=_;simp
 | n+1=>by show (bl mask h n).2 / 32=_;rw [zm3 mask h n,Nat.div_div_eq_div_mul,Nat.pow_succ]
theorem zsz (h:Int):bits h<2 ^ 64:=by
 unfold bits
 have h1:=Int.emod_nonneg h (show (2 ^ 64:Int)≠0 by decide)
 have h2:=Int.emod_lt_of_pos h (show (0:Int)<2 ^ 64 by decide)
 omega
theorem zs0 (mask:Nat) (h:Int) (n:Nat):(bl mask h (13+n)).2=0:=by
 rw [zm3]
 apply Nat.div_eq_of_lt
 have:=zsz h
 have e:2 ^ 65<=32 ^ (13+n):=by
  rw [Nat.pow_add,show (32:Nat) ^ 13=2 ^ 65 by decide]
  exact Nat.le_mul_of_pos_right _ (Nat.pow_pos (by decide))
 have:(2:Nat) ^ 64<2 ^ 65:=by decide
 omega
theorem zm4 (mask:Nat) (h:Int):∀n,(bl mask h n).1<=mask
 | 0=>by have:=Nat.mod_lt (bits h) (show 0<mask+1 by omega);show bits h % (mask+1)<=mask;omega
 | n+1=>by have:=Nat.mod_lt ((bl mask h n).1*5+1+(bl mask h n).2 / 32) (show 0<mask+1 by omega);show ((bl mask h n).1*5+1+(bl mask h n).2 / 32) % (mask+1)<=mask;omega
theorem zm5 (mask:Nat) (h:Int):∀n,(bl mask h (13+n)).1=F n (bl mask h 13).1 % (mask+1)
 | 0=>by have:=zm4 mask h 13;exact (Nat.mod_eq_of_lt (by show (bl mask h 13).1<mask+1;omega)).symm
 | n+1=>by
  show ((bl mask h (13+n)).1*5+1+(bl mask h (13+n)).2 / 32) % (mask+1)=(5*F n _+1) % (mask+1)
  rw [zm5 mask h n,zs0,Nat.zero_div,Nat.add_zero,Nat.mul_comm (F n _ % (mask+1)) 5]
  rw [Nat.add_mod,Nat.mul_mod,Nat.mod_mod,←Nat.mul_mod,←Nat.add_mod]
theorem zs1 {mask k:Nat}(hk:mask+1=2 ^ k) (h:Int) {e:Nat}(he:e<=mask):∃n,n<mask+14/\(bl mask h n).1=e:=by
 obtain ⟨n,hn,hf⟩:=zsw k (bl mask h 13).1 e
 refine ⟨13+n,by omega,?_⟩
 rw [zm5,hk,hf,←hk]
 exact Nat.mod_eq_of_lt (by omega)
theorem zkn {mask i:Nat}(h:i<=mask):runEnd mask i<=mask:=by unfold runEnd;split <;> omega
theorem zko (mask:Nat) (h:Int) (n:Nat):(pn mask h n).j<=mask/\(pn mask h n).j+(pn mask h n).more<=mask/\(pn mask h n).dummy=none:=by
 induction n with
 | zero =>
  have h1:bits h % (mask+1)<=mask:=by have:=Nat.mod_lt (bits h) (show 0<mask+1 by omega);omega
  have h2:=zkn h1
  refine ⟨h1,?_,rfl⟩
  show bits h % (mask+1)+(runEnd mask (bits h % (mask+1))-bits h % (mask+1))<=mask
  omega
 | succ n ih =>
  obtain ⟨i1,i2,i3⟩:=ih
  show (adv mask (pn mask h n)).j<=mask/\(adv mask (pn mask h n)).j+(adv mask (pn mask h n)).more<=mask/\(adv mask (pn mask h n)).dummy=none
  unfold adv
  by_cases hm:(pn mask h n).more > 0
  ·rw [if_pos hm]
   exact ⟨by show (pn mask h n).j+1<=mask;omega,by show (pn mask h n).j+1+((pn mask h n).more-1)<=mask;omega,i3⟩
  ·rw [if_neg hm]
   have h1:(leap mask (pn mask h n).i (pn mask h n).perturb).1<=mask:=by
    have:=Nat.mod_lt ((pn mask h n).i*5+1+(pn mask h n).perturb / 32) (show 0<mask+1 by omega)
    show ((pn mask h n).i*5+1+(pn mask h n).perturb / 32) % (mask+1)<=mask
    omega
   have h2:=zkn h1
   exact ⟨h1,by show (leap mask (pn mask h n).i (pn mask h n).perturb).1+(runEnd mask (leap mask (pn mask h n).i (pn mask h n).perturb).1-(leap mask (pn mask h n).i (pn mask h n).perturb).1)<=mask;omega,i3⟩
noncomputable def Ris (xs:Array Nat):Prop:=∀i j,i<j->j<xs.size->xs.getD i 0<xs.getD j 0
theorem zs2 {xs:Array Nat}{i:Nat}(h:i<xs.size) (d e:Nat):xs.getD i d=xs.getD i e:=by simp [h]
theorem zm6 {xs:Array Nat}{i:Nat}(h:i<xs.size) (d:Nat):xs[i]? = some (xs.getD i d):=by simp [h]
theorem zh0 {xs:Array Nat}{i j:Nat}(h:xs[i]? = some j) (d:Nat):i<xs.size/\xs.getD i d=j:=by
 obtain ⟨h1,h2⟩:=Array.getElem?_eq_some_iff.mp h
 exact ⟨h1,by simp [h1,h2]⟩
theorem zs3 {xs:Array Nat}(hr:Ris xs) (j:Nat):∀(fuel lo hi:Nat),lo<=hi->hi<=xs.size->hi-lo<=fuel->(∀i,i<lo->xs.getD i 0<j)->(∀i,hi<=i->i<xs.size->j<=xs.getD i 0) ->
  below.go xs j fuel lo hi<=xs.size/\(∀i,i<below.go xs j fuel lo hi->xs.getD i 0<j)/\∀i,below.go xs j fuel lo hi<=i->i<xs.size->j<=xs.getD i 0:=by
 intro fuel
 induction fuel with
 | zero =>
  intro lo hi h1 h2 h3 h4 h5
  have e:lo=hi:=by omega
  subst e
  exact ⟨h2,h4,h5⟩
 | succ fuel ih =>
  intro lo hi h1 h2 h3 h4 h5
  unfold below.go
  by_cases hl:lo<hi
  ·rw [if_pos hl]
   dsimp only
   have hm1:(lo+hi) / 2<hi:=by omega
   have hm2:lo<=(lo+hi) / 2:=by omega
   have hms:(lo+hi) / 2<xs.size:=by omega
   rw [zs2 hms j 0]
   by_cases hx:xs.getD ((lo+hi) / 2) 0<j
   ·rw [if_pos hx]
    refine ih _ _ (by omega) h2 (by omega) (fun i hi'=>?_) h5
    by_cases e:i=(lo+hi) / 2
    ·rw [e];exact hx
    ·exact Nat.lt_trans (hr i _ (by omega) hms) hx
   ·rw [if_neg hx]
    refine ih _ _ hm2 (by omega) (by omega) h4 fun i hi1 hi2=>?_
    by_cases e:i=(lo+hi) / 2
    ·rw [e];omega
    ·have:=hr ((lo+hi) / 2) i (by omega) hi2
     omega
  ·rw [if_neg hl]
   have e:lo=hi:=by omega
   subst e
   exact ⟨h2,h4,h5⟩
theorem zi1 {xs:Array Nat}(hr:Ris xs) (j:Nat):below xs j<=xs.size/\(∀i,i<below xs j->xs.getD i 0<j)/\∀i,below xs j<=i->i<xs.size->j<=xs.getD i 0 :=
 zs3 hr j xs.size 0 xs.size (Nat.zero_le _) (qlr _) (by omega) (fun i h=>absurd h (Nat.not_lt_zero _)) fun i h1 h2=>by omega
theorem zh1 {xs:Array Nat}(hr:Ris xs) {i j:Nat}(h:xs[i]? = some j):below xs j=i:=by
 obtain ⟨h1,h2⟩:=zh0 h 0
 obtain ⟨b1,b2,b3⟩:=zi1 hr j
 rcases Nat.lt_trichotomy (below xs j) i with hl|hl|hl
 ·have:=b3 (below xs j) (qlr _) (by omega)
  have:=hr _ _ hl h1
  omega
 ·exact hl
 ·have:=b2 i hl
  omega
theorem zh2 {t:SetTable}(hr:Ris t.place) {i j:Nat}(h:t.place[i]? = some j):t.slot j=.live i:=by
 unfold slot
 dsimp only
 rw [zh1 hr h,if_pos (by rw [h];simp)]
theorem zs4 {t:SetTable}(hd:t.dummies = #[]) {j:Nat}(h:∀i:Nat,t.place[i]?≠some j):t.slot j=.empty:=by
 unfold slot
 dsimp only
 rw [if_neg (by intro z;exact h _ (by simpa using z)),if_neg (by rw [hd];simp [has])]
noncomputable def In (t:SetTable) (j:Nat):Prop:=∃i:Nat,t.place[i]? = some j
structure TOk (t:SetTable) (es:Array (Int × Value)):Prop where
 dm:t.dummies = #[]
 sz:t.place.size=es.size
 pw:∃k,t.mask+1=2 ^ k/\3<=k
 ris:Ris t.place
 le:∀j,In t j->j<=t.mask
 ro:es.size*5<t.mask*3
 sm:t.mask<8192
 pr:∀(i:Nat) (h:Int) (v:Value),es[i]? = some (h,v)->∃n,t.place[i]? = some (pn t.mask h n).j/\∀m,m<n->In t (pn t.mask h m).j
theorem TOk.fits {t:SetTable}{es:Array (Int × Value)}(k:TOk t es):t.fits es.size=true:=by
 unfold SetTable.fits SetTable.fill
 rw [k.dm,k.sz]
 have:=k.ro
 simp
 omega
theorem TOk.gave {t:SetTable}{es:Array (Int × Value)}(k:TOk t es):t.gaveWay=false:=by
 unfold SetTable.gaveWay
 obtain ⟨n,h1,h2⟩:=k.pw
 have:(2:Nat) ^ n % 2=0:=by
  obtain ⟨m,rfl⟩:∃m,n=m+1:=⟨n-1,by omega⟩
  rw [Nat.pow_succ];simp
 simp
 omega
theorem pigeon:∀(n:Nat) (f:Nat->Option Nat) ,(∀j,j<n+1->∃i,f j=some i/\i<n)->(∀j j' i,j<n+1->j' < n+1->f j=some i->f j' = some i->j=j')->False
 | 0,f,h,_=>by obtain ⟨i,_,hi⟩:=h 0 (by omega);omega
 | n+1,f,h,inj=>by
  obtain ⟨a,ha,hal⟩:=h (n+1) (by omega)
  refine pigeon n (fun j=>(f j).map fun i=>if i=n then a else i) (fun j hj=>?_) fun j j' i l1 l2 h1 h2=>?_
  ·obtain ⟨i,hi,hil⟩:=h j (by omega)
   refine ⟨if i=n then a else i,by simp [hi],?_⟩
   split
   ·rename_i e
    rcases Nat.lt_or_ge a n with h' | h'
    ·exact h'
    ·have:a=n:=by omega
     have:=inj (n+1) j n (by omega) (by omega) (by rw [ha,this]) (by rw [hi,e])
     omega
   ·omega
  ·cases e1:f j with
   | none=>rw [e1] at h1;cases h1
   | some i1 =>
    cases e2:f j' with
    | none=>rw [e2] at h2;cases h2
    | some i2 =>
     rw [e1] at h1;rw [e2] at h2
     have h1:(if i1=n then a else i1)=i:=by simpa using h1
     have h2:(if i2=n then a else i2)=i:=by simpa using h2
     by_cases c1:i1=n <;> by_cases c2:i2=n
     ·exact inj j j' n (by omega) (by omega) (by rw [e1,c1]) (by rw [e2,c2])
     ·rw [if_pos c1] at h1;rw [if_neg c2] at h2
      have:=inj (n+1) j' i (by omega) (by omega) (by rw [ha,h1]) (by rw [e2,h2])
      omega
     ·rw [if_neg c1] at h1;rw [if_pos c2] at h2
      have:=inj (n+1) j i (by omega) (by omega) (by rw [ha,h2]) (by rw [e1,h1])
      omega
     ·rw [if_neg c1] at h1;rw [if_neg c2] at h2
      exact inj j j' i (by omega) (by omega) (by rw [e1,h1]) (by rw [e2,h2])
theorem zm7 {mask k:Nat}(hk:mask+1=2 ^ k) (h:Int) (P:Nat->Prop) [DecidablePred P] {e:Nat}(he:e<=mask) (hP:¬P e) :
  ∃N b,N<=ss mask h b/\b<mask+14/\¬P (pn mask h N).j/\∀m,m<N->P (pn mask h m).j:=by
 obtain ⟨b,hb,hbe⟩:=zs1 hk h he
 have h0:¬P (pn mask h (ss mask h b)).j:=by rw [zkm];show ¬P (bl mask h b).1;rw [hbe];exact hP
 have least:∀n,¬P (pn mask h n).j->∃N,N<=n/\¬P (pn mask h N).j/\∀m,m<N->P (pn mask h m).j:=by
  intro n
  induction n using Nat.strongRecOn with
  | _ n ih =>
   intro hn
   by_cases c:∃m,m<n/\¬P (pn mask h m).j
   ·obtain ⟨m,hm,hp⟩:=c
    obtain ⟨N,h1,h2⟩:=ih m hm hp
    exact ⟨N,by omega,h2⟩
   ·exact ⟨n,qlr _,hn,fun m hm=>Decidable.byContradiction fun z=>c ⟨m,hm,z⟩⟩
 obtain ⟨N,h1,h2,h3⟩:=least _ h0
 exact ⟨N,b,h1,hb,h2,h3⟩
open Classical in
theorem TOk.empty {t:SetTable}{es:Array (Int × Value)}(k:TOk t es) (h:Int):∃N,N<10*(t.mask+14)/\¬In t (pn t.mask h N).j/\∀m,m<N->In t (pn t.mask h m).j:=by
 obtain ⟨n,h1,h2⟩:=k.pw
 have ex:∃e,e<=t.mask/\¬In t e:=by
  refine Classical.byContradiction fun hc=>?_
  have all:∀e,e<=t.mask->In t e:=fun e he=>Classical.byContradiction fun z=>hc ⟨e,he,z⟩
  refine pigeon t.mask (fun j=>if hj:In t j then some hj.choose else none) (fun j hj=>?_) fun j j' i _ _ e1 e2=>?_
  ·have hi:=all j (by omega)
   refine ⟨hi.choose,dif_pos hi,?_⟩
   have:=(zh0 hi.choose_spec 0).1
   have:=k.sz;have:=k.ro
   omega
  ·split at e1
   ·rename_i hj
    split at e2
    ·rename_i hj'
     have q1:=hj.choose_spec
     have q2:=hj'.choose_spec
     rw [qoi e1] at q1
     rw [qoi e2] at q2
     rw [q1] at q2
     exact qoi q2
    ·cases e2
   ·cases e1
 obtain ⟨e,he,hne⟩:=ex
 obtain ⟨N,b,h3,h4,h5,h6⟩:=zm7 h1 h (In t) he hne
 have:=zm2 t.mask h b
 exact ⟨N,by omega,h5,h6⟩
theorem zs5 {t:SetTable}{es:Array (Int × Value)}(k:TOk t es) (h:Int) {N:Nat}(hN:¬In t (pn t.mask h N).j) (hl:∀m,m<N->In t (pn t.mask h m).j) (ha:Nat->Int) :
  ∀(fuel m:Nat),m<=N->N-m<fuel ->
   (∃m' i,m<=m'/\m' < N/\t.place[i]? = some (pn t.mask h m').j/\ha i=h/\(∀m'' i',m<=m''->m'' < m'->t.place[i']? = some (pn t.mask h m'').j->ha i'≠h) /\
    probe.go t ha h fuel (pn t.mask h m)=some (.candidate (pn t.mask h m').j i (pn t.mask h (m' + 1)))) ∨
   ((∀m'' i',m<=m''->m'' < N->t.place[i']? = some (pn t.mask h m'').j->ha i'≠h)/\probe.go t ha h fuel (pn t.mask h m)=some (.empty (pn t.mask h N).j none)):=by
 intro fuel
 induction fuel with
 | zero=>intro m h1 h2;omega
 | succ fuel ih =>
  intro m h1 h2
  unfold probe.go
  rcases Nat.lt_or_ge m N with hm|hm
  ·obtain ⟨i,hi⟩:=hl m hm
   rw [zh2 k.ris hi]
   dsimp only
   by_cases e:ha i=h
   ·rw [if_pos (by simpa using e)]
    exact .inl ⟨m,i,qlr _,hm,hi,e,fun m'' i' q1 q2=>by omega,rfl⟩
   ·rw [if_neg (by simpa using e),zsx]
    show _∨(_/\probe.go t ha h fuel (pn t.mask h (m+1))=_)
    have here:∀i',t.place[i']? = some (pn t.mask h m).j->ha i'≠h:=fun i' hi'=>by
     have e1:=zh1 k.ris hi
     have e2:=zh1 k.ris hi'
     rw [e1] at e2
     rw [←e2];exact e
    rcases ih (m+1) hm (by omega) with ⟨m',i',q1,q2,q3,q4,q5,q6⟩|⟨q1,q2⟩
    ·refine .inl ⟨m',i',by omega,q2,q3,q4,fun m'' i'' r1 r2 r3=>?_,q6⟩
     by_cases c:m'' = m
     ·subst c;exact here i'' r3
     ·exact q5 m'' i'' (by omega) r2 r3
    ·refine .inr ⟨fun m'' i'' r1 r2 r3=>?_,q2⟩
     by_cases c:m'' = m
     ·subst c;exact here i'' r3
     ·exact q1 m'' i'' (by omega) r2 r3
  ·have e:m=N:=by omega
   subst e
   rw [zs4 k.dm fun i hi=>hN ⟨i,hi⟩]
   exact .inr ⟨fun m'' i' q1 q2=>by omega,by rw [(zko t.mask h m).2.2]⟩
theorem zge {α:Type}{xs:Array α}{p:Nat}{x:α}(hp:p<=xs.size) (i:Nat):(insertAt xs p x)[i]? = if i<p then xs[i]? else if i=p then some x else xs[i-1]?:=by
 rw [←Array.getElem?_toList,toList_insertAt]
 have hl:(xs.toList.take p).length=p:=by rw [List.length_take,Array.length_toList];omega
 by_cases h1:i<p
 ·rw [if_pos h1,List.getElem?_append_left (by omega),List.getElem?_take_of_lt h1,Array.getElem?_toList]
 ·rw [if_neg h1,List.getElem?_append_right (by omega),hl]
  by_cases h2:i=p
  ·rw [if_pos h2,h2,Nat.sub_self];rfl
  ·rw [if_neg h2,show i-p=(i-p-1)+1 by omega,List.getElem?_cons_succ,List.getElem?_drop,Array.getElem?_toList]
   congr 1;omega
theorem zer {α:Type}{xs:Array α}{p:Nat}{x:α}:(insertAt xs p x).size=xs.size+1:=by
 rw [←Array.length_toList,(insertAt_perm xs p x).length_eq];simp
theorem zs6 (j:Nat):has #[] j=false:=by simp [has]
theorem zkp {t:SetTable}(hd:t.dummies = #[]) (j:Nat):t.put j=({ t with place:=insertAt t.place (below t.place j) j },below t.place j):=by
 unfold put
 rw [hd,zs6]
 cases t
 simp only at hd
 subst hd
 rfl
theorem zs7 {t:SetTable}(hr:Ris t.place) (j:Nat) (x:Nat):In { t with place:=insertAt t.place (below t.place j) j } x↔x=j∨In t x:=by
 have hb:=(zi1 hr j).1
 constructor
 ·rintro ⟨i,hi⟩
  have hi:(insertAt t.place (below t.place j) j)[i]? = some x:=hi
  rw [zge hb] at hi
  split at hi
  ·exact .inr ⟨i,hi⟩
  ·split at hi
   ·exact .inl (qoi hi).symm
   ·exact .inr ⟨_,hi⟩
 ·rintro (rfl|⟨i,hi⟩)
  ·refine ⟨below t.place x,?_⟩
   show (insertAt t.place (below t.place x) x)[_]? = some x
   rw [zge hb,if_neg (Nat.lt_irrefl _),if_pos rfl]
  ·by_cases c:i<below t.place j
   ·exact ⟨i,by show (insertAt t.place (below t.place j) j)[i]? = some x;rw [zge hb,if_pos c];exact hi⟩
   ·exact ⟨i+1,by show (insertAt t.place (below t.place j) j)[i+1]? = some x;rw [zge hb,if_neg (by omega),if_neg (by omega)];exact hi⟩
theorem zs8 {xs:Array Nat}(hr:Ris xs) {j:Nat}(hj:∀i:Nat,xs[i]?≠some j):Ris (insertAt xs (below xs j) j):=by
 obtain ⟨b1,b2,b3⟩:=zi1 hr j
 have b4:∀i,below xs j<=i->i<xs.size->j<xs.getD i 0:=fun i h1 h2=>by
  have:=b3 i h1 h2
  have:xs.getD i 0≠j:=fun e=>hj i (by rw [zm6 h2 0,e])
  omega
 have g:∀i,i<(insertAt xs (below xs j) j).size->(insertAt xs (below xs j) j).getD i 0=if i<below xs j then xs.getD i 0 else if i=below xs j then j else xs.getD (i-1) 0:=fun i hi=>by
  have q:=zge (x:=j) b1 i
  rw [zm6 hi 0] at q
  rw [zer] at hi
  split at q
  ·rename_i c;rw [if_pos c];exact ((zh0 q.symm 0).2).symm
  ·rename_i c
   rw [if_neg c]
   split at q
   ·rename_i c2;rw [if_pos c2];exact qoi q
   ·rename_i c2;rw [if_neg c2];exact ((zh0 q.symm 0).2).symm
 intro a b hab hb
 rw [g a (by omega),g b hb]
 rw [zer] at hb
 by_cases c1:a<below xs j
 ·rw [if_pos c1]
  by_cases c2:b<below xs j
  ·rw [if_pos c2];exact hr a b hab (by omega)
  ·rw [if_neg c2]
   have:=b2 a c1
   by_cases c3:b=below xs j
   ·rw [if_pos c3];exact this
   ·rw [if_neg c3]
    have:=b4 (b-1) (by omega) (by omega)
    omega
 ·rw [if_neg c1,if_neg (show ¬b<below xs j by omega),if_neg (show ¬b=below xs j by omega)]
  by_cases c3:a=below xs j
  ·rw [if_pos c3];exact b4 (b-1) (by omega) (by omega)
  ·rw [if_neg c3];exact hr (a-1) (b-1) (by omega) (by omega)
theorem TOk.put {t:SetTable}{es:Array (Int × Value)}(k:TOk t es) {h:Int}{x:Value}{N:Nat}(hN:¬In t (pn t.mask h N).j) (hl:∀m,m<N->In t (pn t.mask h m).j) (hro:(es.size+1)*5<t.mask*3) :
  TOk (t.put (pn t.mask h N).j).1 (insertAt es (t.put (pn t.mask h N).j).2 (h,x)):=by
 rw [zkp k.dm]
 have hb:=(zi1 k.ris (pn t.mask h N).j).1
 have hbe:=hb
 rw [k.sz] at hbe
 have inn:=zs7 k.ris (pn t.mask h N).j
 refine ⟨k.dm,?_,k.pw,zs8 k.ris fun i hi=>hN ⟨i,hi⟩,fun j hj=>?_,?_,k.sm,fun i h' v hi=>?_⟩
 ·show (insertAt t.place _ _).size=(insertAt es _ _).size
  rw [zer,zer,k.sz]
 ·rcases (inn j).mp hj with rfl|hj
  ·exact (zko _ _ _).1
  ·exact k.le j hj
 ·rw [zer];exact hro
 ·rw [zge hbe] at hi
  show ∃n,(insertAt t.place (below t.place (pn t.mask h N).j) (pn t.mask h N).j)[i]? = some (pn t.mask h' n).j/\_
  rw [zge hb]
  have up:∀n,(∀m,m<n->In t (pn t.mask h' m).j)->∀m,m<n->In { t with place:=insertAt t.place (below t.place (pn t.mask h N).j) (pn t.mask h N).j } (pn t.mask h' m).j:=fun n q m hm=>(inn _).mpr (.inr (q m hm))
  split at hi
  ·rename_i c
   rw [if_pos c]
   obtain ⟨n,e1,e2⟩:=k.pr i h' v hi
   exact ⟨n,e1,up n e2⟩
  ·rename_i c
   rw [if_neg c]
   split at hi
   ·rename_i c2
    rw [if_pos c2]
    cases hi
    exact ⟨N,rfl,up N hl⟩
   ·rename_i c2
    rw [if_neg c2]
    obtain ⟨n,e1,e2⟩:=k.pr _ h' v hi
    exact ⟨n,e1,up n e2⟩
theorem TOk.plain {t:SetTable}{es:Array (Int × Value)}(k:TOk t es) (b:Bool):TOk { t with plain:=b } es:=⟨k.dm,k.sz,k.pw,k.ris,k.le,k.ro,k.sm,k.pr⟩
theorem zs9 (n:Nat):∀(fuel k:Nat),n<2 ^ (k+fuel)->∃k',k<=k'/\sizeAbove.go n fuel (2 ^ k)=2 ^ k'/\n<2 ^ k'/\(k' = k∨2 ^ k'<=2*n):=by
 intro fuel
 induction fuel with
 | zero=>intro k h;exact ⟨k,qlr _,rfl,h,.inl rfl⟩
 | succ fuel ih =>
  intro k h
  unfold sizeAbove.go
  by_cases c:2 ^ k<=n
  ·rw [if_pos c,←Nat.pow_succ]
   obtain ⟨k',h1,h2,h3,h4⟩:=ih (k+1) (by rw [show k+1+fuel=k+(fuel+1) by omega];exact h)
   refine ⟨k',by omega,h2,h3,.inr ?_⟩
   rcases h4 with rfl|h4
   ·rw [Nat.pow_succ];omega
   ·exact h4
  ·rw [if_neg c]
   exact ⟨k,qlr _,rfl,by omega,.inl rfl⟩
theorem zm8 {n:Nat}(h:n<=4000):∃k,3<=k/\sizeAbove n=2 ^ k/\n<2 ^ k/\2 ^ k<=8000:=by
 obtain ⟨k',h1,h2,h3,h4⟩:=zs9 n 64 3 (Nat.lt_of_le_of_lt h (by decide))
 refine ⟨k',h1,h2,h3,?_⟩
 rcases h4 with rfl|h4
 ·decide
 ·omega
noncomputable def Occ (ow:Array (Option Nat)) (j:Nat):Prop:=∃i,ow[j]? = some (some i)
instance (ow:Array (Option Nat)):DecidablePred (Occ ow):=fun j=>match h:ow[j]? with
 | some (some i)=>.isTrue ⟨i,h⟩
 | some none=>.isFalse fun hx1_=>by obtain ⟨i,z⟩:=hx1_;rw [h] at z;cases z
 | none=>.isFalse fun hx2_=>by obtain ⟨i,z⟩:=hx2_;rw [h] at z;cases z
theorem zkq {ow:Array (Option Nat)}{j:Nat}(hj:j<ow.size):(ow.getD j (some 0)).isNone = !decide (Occ ow j):=by
 have e:ow[j]? = some ow[j]:=Array.getElem?_eq_getElem hj
 have e2:ow.getD j (some 0)=ow[j]:=by simp [hj]
 rw [e2]
 cases c:ow[j] with
 | none =>
  rw [decide_eq_false (fun hx3_=>by obtain ⟨i,z⟩:=hx3_;rw [e,c] at z;cases z)];rfl
 | some i =>
  rw [decide_eq_true (show Occ ow j from ⟨i,by rw [e,c]⟩)];rfl
theorem zta {P:Nat->Bool}:∀(n d:Nat),d<n->P d=true->(∀k,k<d->P k=false)->(List.range n).find? P=some d:=by
 intro n d hd hp hb
 rw [List.find?_range_eq_some]
 exact ⟨hp,by simpa using hd,fun j hj=>by simpa using hb j hj⟩
theorem ztb {mask:Nat}{h:Int}{ow:Array (Option Nat)}(hs:ow.size=mask+1) {N b:Nat}(hN:¬Occ ow (pn mask h N).j) (hl:∀m,m<N->Occ ow (pn mask h m).j) (hb:N<=ss mask h b) :
  ∀(fuel n:Nat),n<=b->b-n<fuel->ss mask h n<=N->layClean.free mask ow fuel (bl mask h n).1 (bl mask h n).2=some (pn mask h N).j:=by
 intro fuel
 induction fuel with
 | zero=>intro n h1 h2;omega
 | succ fuel ih =>
  intro n h1 h2 h3
  have hil:=zm4 mask h n
  have hre:(bl mask h n).1<=runEnd mask (bl mask h n).1:=by unfold runEnd;split <;> omega
  have hrm:=zkn hil
  have at':∀d,d<=runEnd mask (bl mask h n).1-(bl mask h n).1->(pn mask h (ss mask h n+d)).j=(bl mask h n).1+d:=fun d hd=>by rw [zkl (zkm mask h n) d hd]
  unfold layClean.free
  by_cases c:N-ss mask h n<=runEnd mask (bl mask h n).1-(bl mask h n).1
  ·have e:=at' _ c
   rw [show ss mask h n+(N-ss mask h n)=N by omega] at e
   rw [zta _ (N-ss mask h n) (by omega) (by rw [zkq (by omega),←e,decide_eq_false hN];rfl) fun k hk=>by
    rw [zkq (by omega),←at' k (by omega),decide_eq_true (hl _ (by omega))];rfl]
   rw [e]
  ·have hn:(List.range (runEnd mask (bl mask h n).1+1-(bl mask h n).1)).find? (fun k=>(ow.getD ((bl mask h n).1+k) (some 0)).isNone)=none:=by
    rw [List.find?_eq_none]
    intro k hk
    have hk:=List.mem_range.mp hk
    rw [zkq (by omega),←at' k (by omega),decide_eq_true (hl _ (by omega))]
    simp
   rw [hn]
   show layClean.free mask ow fuel (bl mask h (n+1)).1 (bl mask h (n+1)).2=_
   have hnb:n≠b:=fun e=>by subst e;omega
   exact ih (n+1) (by omega) (by omega) (by show ss mask h n+_+1<=N;omega)
structure Own (mask:Nat) (ow:Array (Option Nat)) (hs:List Int):Prop where
 size:ow.size=mask+1
 pr:∀(j i:Nat),ow[j]? = some (some i)->∃h,hs[i]? = some h/\∃n,(pn mask h n).j=j/\∀m,m<n->Occ ow (pn mask h m).j
 all:∀i,i<hs.length->∃j:Nat,ow[j]? = some (some i)
 inj:∀(j j' i:Nat),ow[j]? = some (some i)->ow[j']? = some (some i)->j=j'
theorem zg1 {ow:Array (Option Nat)}{j i:Nat}{x:Option Nat}(hj:j<ow.size):(ow.setIfInBounds j x)[i]? = if i=j then some x else ow[i]?:=by
 rw [Array.getElem?_setIfInBounds]
 by_cases c:j=i
 ·subst c;simp [hj]
 ·rw [if_neg c,if_neg (fun e=>c e.symm)]
theorem Own.step {mask k:Nat}(hk:mask+1=2 ^ k) {ow:Array (Option Nat)}{hs:List Int}(o:Own mask ow hs) (h:Int) (hl:hs.length<mask+1) :
  ∃j,layClean.free mask ow (turns mask) (bits h % (mask+1)) (bits h)=some j/\Own mask (ow.setIfInBounds j (some hs.length)) (hs++[h]):=by
 have ex:∃e,e<=mask/\¬Occ ow e:=by
  refine Decidable.byContradiction fun hc=>?_
  have all:∀e,e<=mask->Occ ow e:=fun e he=>Decidable.byContradiction fun z=>hc ⟨e,he,z⟩
  refine pigeon mask (fun j=>(ow[j]?).join) (fun j hj=>?_) fun j j' i l1 l2 e1 e2=>?_
  ·obtain ⟨i,hi⟩:=all j (by omega)
   obtain ⟨h',e1,_⟩:=o.pr j i hi
   have:=(qme e1).1
   exact ⟨i,by rw [hi];rfl,by omega⟩
  ·obtain ⟨i1,q1⟩:=all j (by omega)
   obtain ⟨i2,q2⟩:=all j' (by omega)
   rw [q1] at e1;rw [q2] at e2
   cases e1;cases e2
   exact o.inj j j' i q1 q2
 obtain ⟨e,he,hne⟩:=ex
 obtain ⟨N,b,h3,h4,h5,h6⟩:=zm7 hk h (Occ ow) he hne
 have hj:=(zko mask h N).1
 have hjs:(pn mask h N).j<ow.size:=by rw [o.size];omega
 refine ⟨(pn mask h N).j,ztb o.size h5 h6 h3 _ 0 (Nat.zero_le _) (by unfold turns;omega) (Nat.zero_le _),?_⟩
 have up:∀x,Occ ow x->Occ (ow.setIfInBounds (pn mask h N).j (some hs.length)) x:=fun x hx4_=>by
  obtain ⟨i,hi⟩:=hx4_
  by_cases c:x=(pn mask h N).j
  ·exact ⟨hs.length,by rw [zg1 hjs,if_pos c]⟩
  ·exact ⟨i,by rw [zg1 hjs,if_neg c];exact hi⟩
 refine ⟨by simp [o.size],fun j i hi=>?_,fun i hi=>?_,fun j j' i q1 q2=>?_⟩
 ·rw [zg1 hjs] at hi
  split at hi
  ·rename_i c
   cases hi
   exact ⟨h,by simp,N,c.symm,fun m hm=>up _ (h6 m hm)⟩
  ·obtain ⟨h',e1,n,e2,e3⟩:=o.pr j i hi
   refine ⟨h',?_,n,e2,fun m hm=>up _ (e3 m hm)⟩
   rw [List.getElem?_append_left (qme e1).1];exact e1
 ·rw [qla,List.length_singleton] at hi
  by_cases c:i=hs.length
  ·exact ⟨(pn mask h N).j,by rw [zg1 hjs,if_pos rfl,c]⟩
  ·obtain ⟨j,hj⟩:=o.all i (by omega)
   refine ⟨j,?_⟩
   rw [zg1 hjs,if_neg (fun (e:j=(pn mask h N).j)=>h5 (by rw [←e];exact ⟨i,hj⟩))];exact hj
 ·rw [zg1 hjs] at q1 q2
  have lt:∀x,ow[x]? = some (some i)->i<hs.length:=fun x hx=>let ⟨_,e,_⟩:=o.pr x i hx;(qme e).1
  split at q1
  ·rename_i c1
   split at q2
   ·rename_i c2;rw [c1,c2]
   ·cases q1;have:=lt _ q2;omega
  ·split at q2
   ·cases q2;have:=lt _ q1;omega
   ·exact o.inj j j' i q1 q2
noncomputable def zh3 (mask:Nat) (acc:Option (Array (Option Nat) × Nat)) (h:Int):Option (Array (Option Nat) × Nat):=do
 let (owner,k) ←acc
 let j ←layClean.free mask owner (turns mask) (bits h % (mask+1)) (bits h)
 pure (owner.setIfInBounds j (some k),k+1)
theorem ztc (mask:Nat) (hashes:Array Int):layClean mask hashes=(hashes.toList.foldl (zh3 mask) (some (Array.replicate (mask+1) none,0))).map (·.1):=by
 unfold layClean
 rw [←Array.foldl_toList]
 rfl
theorem zm9 {mask k:Nat}(hk:mask+1=2 ^ k):∀(rest done:List Int) (ow:Array (Option Nat)),Own mask ow done->done.length+rest.length<mask+1 ->
  ∃ow',rest.foldl (zh3 mask) (some (ow,done.length))=some (ow',done.length+rest.length)/\Own mask ow' (done++rest)
 | [],done,ow,o,_=>⟨ow,rfl,by rw [List.append_nil];exact o⟩
 | h :: rest,done,ow,o,hl=>by
  rw [List.length_cons] at hl
  obtain ⟨j,hj,o'⟩:=o.step hk h (by omega)
  have e:zh3 mask (some (ow,done.length)) h=some (ow.setIfInBounds j (some done.length),(done++[h]).length):=by
   unfold zh3
   simp only [Option.bind_eq_bind,Option.bind_some,hj]
   simp
  obtain ⟨ow',h1,h2⟩:=zm9 hk rest (done++[h]) _ o' (by simp;omega)
  refine ⟨ow',?_,by simpa using h2⟩
  rw [List.foldl_cons,e,h1]
  simp;omega
theorem ztd (mask:Nat):Own mask (Array.replicate (mask+1) none) []:=by
 have no:∀(j i:Nat),(Array.replicate (mask+1) (none:Option Nat))[j]?≠some (some i):=fun j i h=>by
  rw [Array.getElem?_replicate] at h
  split at h <;> cases h
 exact ⟨by simp,fun j i h=>absurd h (no j i),fun i h=>absurd h (Nat.not_lt_zero _),fun j j' i h _=>absurd h (no j i)⟩
theorem zte {mask k:Nat}(hk:mask+1=2 ^ k) (hashes:Array Int) (hl:hashes.size<mask+1):∃ow,layClean mask hashes=some ow/\Own mask ow hashes.toList:=by
 obtain ⟨ow,h1,h2⟩:=zm9 hk hashes.toList [] _ (ztd mask) (by simpa using hl)
 refine ⟨ow,?_,by simpa using h2⟩
 rw [ztc]
 have h1:List.foldl (zh3 mask) (some (Array.replicate (mask+1) none,0)) hashes.toList=_:=h1
 rw [h1];rfl
noncomputable def lv (mask:Nat) (ow:Array (Option Nat)):List (Nat × Nat):=(List.range (mask+1)).filterMap fun j=>(ow.getD j none).map (j,·)
theorem ztf {mask:Nat}{ow:Array (Option Nat)}{hs:List Int}(o:Own mask ow hs) (p:Nat × Nat):p∈lv mask ow↔ow[p.1]? = some (some p.2):=by
 unfold lv
 rw [List.mem_filterMap]
 constructor
 ·rintro ⟨j,hj,e⟩
  have hj:=List.mem_range.mp hj
  have hjs:j<ow.size:=by rw [o.size];exact hj
  have e2:ow.getD j none=ow[j]:=by simp [hjs]
  rw [e2] at e
  cases c:ow[j] with
  | none=>rw [c] at e;cases e
  | some i =>
   rw [c] at e
   cases e
   show ow[j]? = some (some i)
   rw [Array.getElem?_eq_getElem hjs,c]
 ·intro h
  obtain ⟨hjs,e⟩:=Array.getElem?_eq_some_iff.mp h
  refine ⟨p.1,List.mem_range.mpr (by rw [←o.size];exact hjs),?_⟩
  have e2:ow.getD p.1 none=ow[p.1]:=by simp [hjs]
  rw [e2,e];rfl
theorem zna {f:Nat->Option (Nat × Nat)}(hf:∀j p,f j=some p->p.1=j):∀(n s:Nat),((List.range' s n).filterMap f).Pairwise (fun p q=>p.1<q.1)/\∀p∈(List.range' s n).filterMap f,s<=p.1
 | 0,s=>⟨.nil,fun p hp=>by simp at hp⟩
 | n+1,s=>by
  obtain ⟨h1,h2⟩:=zna hf n (s+1)
  rw [List.range'_succ]
  cases e:f s with
  | none=>rw [List.filterMap_cons_none e];exact ⟨h1,fun p hp=>by have:=h2 p hp;omega⟩
  | some q =>
   rw [List.filterMap_cons_some e]
   have hq:=hf s q e
   refine ⟨List.pairwise_cons.mpr ⟨fun p hp=>by have:=h2 p hp;omega,h1⟩,fun p hp=>?_⟩
   rcases List.mem_cons.mp hp with rfl|hp
   ·omega
   ·have:=h2 p hp;omega
theorem ztg (mask:Nat) (ow:Array (Option Nat)):(lv mask ow).Pairwise fun p q=>p.1<q.1:=by
 unfold lv
 rw [List.range_eq_range']
 refine (zna (fun j p e=>?_) _ _).1
 cases c:ow.getD j none with
 | none=>rw [c] at e;cases e
 | some i=>rw [c] at e;cases e;rfl
theorem zth:∀(l:List (Nat × Nat)) (n:Nat),(∀(a b:Nat) p q,l[a]? = some p->l[b]? = some q->p.2=q.2->a=b)->(∀p∈l,p.2<n)->(∀i,i<n->∃p∈l,p.2=i)->l.length=n:=by
 intro l n inj lt all
 rcases Nat.lt_trichotomy l.length n with h|h|h
 ·exfalso
  have key:∀i,i<n->∃a:Nat,∃p,l[a]? = some p/\p.2=i:=fun i hi=>by
   obtain ⟨p,hp,e⟩:=all i hi
   obtain ⟨a,ha⟩:=List.mem_iff_getElem?.mp hp
   exact ⟨a,p,ha,e⟩
  obtain ⟨f,hf⟩:∃f:Nat->Nat,∀i,i<n->∃p,l[f i]? = some p/\p.2=i:=⟨fun i=>if hi:i<n then (key i hi).choose else 0,fun i hi=>by dsimp only;rw [dif_pos hi];exact (key i hi).choose_spec⟩
  refine pigeon l.length (fun i=>some (f i)) (fun i hi=>⟨f i,rfl,?_⟩) fun i j a l1 l2 e1 e2=>?_
  ·obtain ⟨p,hp,_⟩:=hf i (by omega)
   exact (qme hp).1
  ·obtain ⟨p,hp,hpi⟩:=hf i (by omega)
   obtain ⟨q,hq,hqj⟩:=hf j (by omega)
   cases e1
   rw [qoi e2,hp] at hq
   cases hq
   omega
 ·exact h
 ·exfalso
  refine pigeon n (fun a=>(l[a]?).map (·.2)) (fun a ha=>?_) fun a b i l1 l2 e1 e2=>?_
  ·have:a<l.length:=by omega
   exact ⟨l[a].2,by rw [qge this];rfl,lt _ (qem this)⟩
  ·have h1:a<l.length:=by omega
   have h2:b<l.length:=by omega
   rw [qge h1] at e1
   rw [qge h2] at e2
   exact inj a b l[a] l[b] (qge h1) (qge h2) ((qoi e1).trans (qoi e2).symm)
theorem zti {t:SetTable}{es:Array (Int × Value)}(hz:0<es.size) (hs:es.size<=1000) :
  ∃t' order es',t.relaid (es.map (·.1)) (grown es.size)=some (t',order)/\order.filterMap (es[·]?)=es'/\es'.size=es.size/\TOk t' es'/\∀e,e∈es'.toList↔e∈es.toList:=by
 have hg:grown es.size=es.size*4:=by unfold grown;rw [if_neg (by omega)]
 obtain ⟨k,hk3,hsa,hlt,hle⟩:=zm8 (n:=es.size*4) (by omega)
 unfold relaid
 rw [hg,hsa]
 generalize hm:2 ^ k-1=mask
 have hk:mask+1=2 ^ k:=by omega
 obtain ⟨ow,hl,o⟩:=zte hk (es.map (·.1)) (by rw [Array.size_map];omega)
 unfold laid
 rw [hl]
 have hlen:(es.map (·.1)).toList.length=es.size:=by simp
 have mem:=ztf o
 have srt:=ztg mask ow
 have e2lt:∀p∈lv mask ow,p.2<es.size:=fun p hp=>by
  obtain ⟨h,e,_⟩:=o.pr p.1 p.2 ((mem p).mp hp)
  rw [←hlen];exact (qme e).1
 have inj2:∀(a b:Nat) p q,(lv mask ow)[a]? = some p->(lv mask ow)[b]? = some q->p.2=q.2->a=b:=fun a b p q ha hb e=>by
  have m1:=(mem p).mp (qmg ha)
  have m2:=(mem q).mp (qmg hb)
  rw [e] at m1
  have e1:=o.inj _ _ _ m1 m2
  rcases Nat.lt_trichotomy a b with h|h|h
  ·have:=(List.pairwise_iff_getElem.mp srt) a b (qme ha).1 (qme hb).1 h
   rw [(qme ha).2,(qme hb).2] at this
   omega
  ·exact h
  ·have:=(List.pairwise_iff_getElem.mp srt) b a (qme hb).1 (qme ha).1 h
   rw [(qme ha).2,(qme hb).2] at this
   omega
 have len:(lv mask ow).length=es.size:=zth _ _ inj2 e2lt fun i hi=>by
  obtain ⟨j,hj⟩:=o.all i (by rw [hlen];exact hi)
  exact ⟨(j,i),(mem (j,i)).mpr hj,rfl⟩
 have fm:∀l:List (Nat × Nat),(∀p∈l,p.2<es.size)->(l.map (·.2)).filterMap (es[·]?)=l.map fun p=>es.getD p.2 (0,.none):=by
  intro l
  induction l with
  | nil=>intro _;rfl
  | cons p l ih =>
   intro h
   have hp:=h p (.head _)
   rw [List.map_cons,List.filterMap_cons_some (b:=es[p.2]) (Array.getElem?_eq_getElem hp),ih (fun q hq=>h q (.tail _ hq)),List.map_cons]
   congr 1
   simp [hp]
 refine ⟨_,_,_,rfl,rfl,?_⟩
 show (Array.filterMap (es[·]?) ((lv mask ow).map (·.2)).toArray).size=es.size/\TOk { mask:=mask,place:=((lv mask ow).map (·.1)).toArray,dummies:=#[],finger:=t.finger,led:=t.led,moves:=t.movedTo mask,plain:=t.plain } (Array.filterMap (es[·]?) ((lv mask ow).map (·.2)).toArray)/\_
 have efm:Array.filterMap (es[·]?) ((lv mask ow).map (·.2)).toArray=((lv mask ow).map fun p=>es.getD p.2 (0,.none)).toArray:=by
  apply Array.toList_inj.mp
  rw [Array.toList_filterMap]
  exact fm _ e2lt
 have inn:∀j,In { mask:=mask,place:=((lv mask ow).map (·.1)).toArray,dummies:=#[],finger:=t.finger,led:=t.led,moves:=t.movedTo mask,plain:=t.plain } j↔Occ ow j:=fun j=>by
  constructor
  ·rintro ⟨i,hi⟩
   have hi:(((lv mask ow).map (·.1)).toArray)[i]? = some j:=hi
   rw [List.getElem?_toArray,qgm] at hi
   cases c:(lv mask ow)[i]? with
   | none=>rw [c] at hi;cases hi
   | some p =>
    rw [c] at hi
    have hi:p.1=j:=qoi hi
    subst hi
    exact ⟨p.2,(mem p).mp (qmg c)⟩
  ·rintro ⟨i,hi⟩
   obtain ⟨a,ha⟩:=List.mem_iff_getElem?.mp ((mem (j,i)).mpr hi)
   refine ⟨a,?_⟩
   show (((lv mask ow).map (·.1)).toArray)[a]? = some j
   rw [List.getElem?_toArray,qgm,ha];rfl
 rw [efm]
 refine ⟨by simp [len],⟨rfl,by simp,⟨k,hk,hk3⟩,fun i j hij hj=>?_,fun j hj=>?_,?_,by show mask<8192;omega,fun i h v hi=>?_⟩,fun e=>?_⟩
 ·have hj:j<(lv mask ow).length:=by simpa using hj
  show (((lv mask ow).map (·.1)).toArray).getD i 0<(((lv mask ow).map (·.1)).toArray).getD j 0
  have h1:i<(lv mask ow).length:=by omega
  have:=(List.pairwise_iff_getElem.mp srt) i j h1 hj hij
  simpa [h1,hj] using this
 ·obtain ⟨i,hi⟩:=(inn j).mp hj
  have:=(Array.getElem?_eq_some_iff.mp hi).1
  rw [o.size] at this
  show j<=mask
  omega
 ·show (((lv mask ow).map fun p=>es.getD p.2 (0,.none)).toArray).size*5<mask*3
  simp [len];omega
 ·have hi:(((lv mask ow).map fun p=>es.getD p.2 (0,.none)).toArray)[i]? = some (h,v):=hi
  rw [List.getElem?_toArray,qgm] at hi
  cases c:(lv mask ow)[i]? with
  | none=>rw [c] at hi;cases hi
  | some p =>
   rw [c] at hi
   have hi:es.getD p.2 (0,.none)=(h,v):=qoi hi
   have hp:=qmg c
   have hps:=e2lt p hp
   obtain ⟨h',e1,n,e3,e4⟩:=o.pr p.1 p.2 ((mem p).mp hp)
   have eh:h' = h:=by
    rw [Array.toList_map,qgm,Array.getElem?_toList,Array.getElem?_eq_getElem hps] at e1
    have e1:es[p.2].1=h':=qoi e1
    rw [←e1]
    have:es.getD p.2 (0,.none)=es[p.2]:=by simp [hps]
    rw [←this,hi]
   subst eh
   refine ⟨n,?_,fun m hm=>(inn _).mpr (e4 m hm)⟩
   show (((lv mask ow).map (·.1)).toArray)[i]? = some _
   rw [List.getElem?_toArray,qgm,c,e3];rfl
 ·show e∈(Array.filterMap (es[·]?) ((lv mask ow).map (·.2)).toArray).toList↔_
  rw [efm]
  show e∈(lv mask ow).map (fun p=>es.getD p.2 (0,.none))↔_
  rw [List.mem_map]
  constructor
  ·rintro ⟨p,hp,rfl⟩
   have hps:=e2lt p hp
   have:es.getD p.2 (0,.none)=es[p.2]:=by simp [hps]
   rw [this]
   exact Array.mem_toList_iff.mpr (Array.getElem_mem hps)
  ·intro he
   obtain ⟨i,hi,rfl⟩:=List.mem_iff_getElem.mp he
   rw [Array.length_toList] at hi
   obtain ⟨j,hj⟩:=o.all i (by rw [hlen];exact hi)
   refine ⟨(j,i),(mem (j,i)).mpr hj,?_⟩
   simp [hi]
theorem znb {t:SetTable}{es:Array (Int × Value)}(k:TOk t es) {h:Int}{N m:Nat}(hN:¬In t (pn t.mask h N).j) (hl:∀m,m<N->In t (pn t.mask h m).j) (hb:N<10*(t.mask+14)) (hm:m<=N) {ha:Nat->Int}{p:Probe}{r:Option Met}
  (hq:t.probe ha h p=r) (hp:p=pn t.mask h m) :
   (∃m' i,m<=m'/\m' < N/\t.place[i]? = some (pn t.mask h m').j/\ha i=h/\(∀m'' i',m<=m''->m'' < m'->t.place[i']? = some (pn t.mask h m'').j->ha i'≠h)/\r=some (.candidate (pn t.mask h m').j i (pn t.mask h (m' + 1)))) ∨
   ((∀m'' i',m<=m''->m'' < N->t.place[i']? = some (pn t.mask h m'').j->ha i'≠h)/\r=some (.empty (pn t.mask h N).j none)):=by
 subst hq hp
 exact zs5 k h hN hl ha _ m hm (by unfold turns;omega)
noncomputable def zay (ks:List Int):Int:=reduceHash (Builtin.Tuple.tupleHashOf (ks.map hashInt))
section
variable {prog:Program}{w:World}{A:Around}{E:Value->Shared->Prop}{s:Shared}
noncomputable abbrev IsK (prog:Program) (w:World) (h:Heap) (ks:List Int) (b:Addr):Prop:=IsTupleKey (intKind prog w) h ks b
theorem items_int {ks:List Int}{vs:List Value}(h:ItemsAre (intKind prog w) ks vs):∀v∈vs,∃i t,v=.int i t:=by
 induction h with
 | nil=>intro v hv;simp at hv
 | cons h1 _ ih =>
  intro v hv
  rcases List.mem_cons.mp hv with rfl|hv
  ·obtain ⟨t,rfl⟩:=Value.isInt_shape h1
   exact ⟨_,t,rfl⟩
  ·exact ih v hv
theorem znc {ks:List Int}{b:Addr}{Q:Bool->Shared->Prop}(hk:IsK prog w s.heap ks b) (h:Q false s):wpAny (model prog w) A (ofAClassStatement 8 (.ref b)) Q E s:=by
 have hT:=hk.typeIs
 obtain ⟨o,items,n,ho,hc,hd,hi⟩:=hk
 unfold ofAClassStatement
 refine wpAny_bind (wpAny_typeOf hT ?_)
 dsimp only
 rw [if_pos (by decide)]
 refine wpAny_bind (wpAny_pure ?_)
 simp only [Bool.not_true,Bool.false_eq_true,if_false]
 refine wpAny_bind (wpAny_seqItems ho hd ?_)
 dsimp only
 refine wpAny_bind ?_
 rw [←Array.forIn_toList]
 refine wpAny_forIn_list _ (fun rest r s'=>r.1=none/\s' = s/\∀v∈rest,∃i t,v=.int i t) _ ?_ ?_ _ _ ⟨rfl,rfl,items_int hi⟩
 ·rintro v rest r s' ⟨hr,rfl,hall⟩
  obtain ⟨i,t,rfl⟩:=hall v List.mem_cons_self
  unfold ofAClassStatement
  refine wpAny_bind (wpAny_pure ?_)
  simp only [Bool.false_eq_true,if_false]
  exact wpAny_pure ⟨rfl,rfl,fun u hu'=>hall u (List.mem_cons_of_mem _ hu')⟩
 ·rintro ⟨r1,r2⟩ s' ⟨hr,rfl,_⟩
  simp only at hr
  subst hr
  exact wpAny_pure h
theorem ztj {ks:List Int}{b:Addr}{Q:Bool->Shared->Prop}(hk:IsK prog w s.heap ks b) (h:Q true s):wpAny (model prog w) A (hashByValue 8 (.ref b)) Q E s:=by
 have hT:=hk.typeIs
 obtain ⟨o,items,n,ho,hc,hd,hi⟩:=hk
 unfold hashByValue
 refine wpAny_bind (wpAny_specialOf hT F.slot_tuple_hash.lookup ?_)
 dsimp only
 refine wpAny_bind (wpAny_seqItems ho hd ?_)
 refine wpAny_bind ?_
 show wpAny _ _ (forIn items _ _) _ _ s
 rw [←Array.forIn_toList]
 refine wpAny_forIn_list _ (fun rest r s'=>r.1=none/\s' = s/\∀v∈rest,∃i t,v=.int i t) _ ?_ ?_ _ _ ⟨rfl,rfl,items_int hi⟩
 ·rintro v rest r s' ⟨hr,rfl,hall⟩
  obtain ⟨i,t,rfl⟩:=hall v List.mem_cons_self
  unfold hashByValue
  refine wpAny_bind (wpAny_pure ?_)
  simp only [Bool.not_true,Bool.false_eq_true,if_false]
  exact wpAny_pure ⟨rfl,rfl,fun u hu'=>hall u (List.mem_cons_of_mem _ hu')⟩
 ·rintro ⟨r1,r2⟩ s' ⟨hr,rfl,_⟩
  simp only at hr
  subst hr
  exact wpAny_pure h
theorem ztk {ks:List Int}{x:Addr}{stored:List Value}{Q:Bool->Shared->Prop}(hk:IsK prog w s.heap ks x) (hs:∀v∈stored,∃k b,v=.ref b/\IsK prog w s.heap k b) (h:Q false s) :
  wpAny (model prog w) A (searchCouldBeSeen (.ref x) stored) Q E s:=by
 unfold searchCouldBeSeen
 refine wpAny_bind ?_
 refine wpAny_forIn_list _ (fun rest r s'=>r.1=none/\s' = s/\∀v∈rest,∃k b,v=.ref b/\IsK prog w s.heap k b) _ ?_ ?_ _ _ ⟨rfl,rfl,hs⟩
 ·rintro v rest r s' ⟨hr,rfl,hall⟩
  obtain ⟨k',b,rfl,hb⟩:=hall v List.mem_cons_self
  have nx:∀u∈rest,∃k b,u=.ref b/\IsK prog w s'.heap k b:=fun u hu'=>hall u (List.mem_cons_of_mem _ hu')
  dsimp only
  split
  ·exact wpAny_pure ⟨rfl,rfl,nx⟩
  ·refine wpAny_bind (wpAny_eqIsQuiet_tuple hk ?_)
   simp only [Bool.not_true,Bool.false_eq_true,if_false]
   refine wpAny_bind (wpAny_eqIsQuiet_tuple hb ?_)
   simp only [Bool.not_true,Bool.false_eq_true,if_false]
   refine wpAny_bind (znc hk ?_)
   simp only [Bool.false_eq_true,if_false]
   refine wpAny_bind (znc hb ?_)
   simp only [Bool.false_eq_true,if_false]
   exact wpAny_pure ⟨rfl,rfl,nx⟩
 ·rintro ⟨r1,r2⟩ s' ⟨hr,rfl,_⟩
  simp only at hr
  subst hr
  exact wpAny_pure h
structure Els (es:Array (Int × Value)) (xs:List (List Int × Addr)):Prop where
 sub:∀e∈es.toList,∃p∈xs,e=(zay p.1,.ref p.2)
 sup:∀p∈xs,(zay p.1,Value.ref p.2)∈es.toList
 len:es.size=xs.length
theorem znd {a x:Addr}{k:List Int}{xs:List (List Int × Addr)}{o:Obj}{es:Array (Int × Value)}{ep:Nat}{t:SetTable}{adding:Bool}{Q:SetFound->Shared->Prop}(hu:A.units<cLine)
  (ho:s.heap.get? a=some o) (hd:o.data=.set es ep t) (ok:TOk t es) (el:Els es xs) (hxs:∀p∈xs,IsK prog w s.heap p.1 p.2) (hkey:IsK prog w s.heap k x) {N:Nat} (hN:¬In t (pn t.mask (zay k) N).j) (hl:∀m,m<N->In t (pn t.mask (zay k) m).j) (hb:N<10*(t.mask+14))
  (yes:(∃p∈xs,p.1=k)->∀r,(adding=false->r.isSome=true)->Q (.there r) s) (no:(∀p∈xs,p.1≠k)->Q (.free (pn t.mask (zay k) N).j false) s) :
  ∀(fuel m:Nat) (stand:Option Probe),N-m<fuel->m<=N->stand.getD (t.probeStart (zay k))=pn t.mask (zay k) m ->
   (∀(m' i:Nat) (p:List Int × Addr),p∈xs->m' < m->t.place[i]? = some (pn t.mask (zay k) m').j->es[i]? = some (zay p.1,.ref p.2)->p.1≠k) ->
   wpAny (model prog w) A (setSearchFrom a (.ref x) (zay k) adding fuel stand) Q E s:=by
 intro fuel
 induction fuel with
 | zero=>intro m stand h1;omega
 | succ fuel ih =>
  intro m stand h1 h2 h3 h4
  unfold setSearchFrom
  refine wpAny_bind (wpAny_setState_of ho hd ok.fits ?_)
  dsimp only
  rw [ok.gave]
  simp only [Bool.false_eq_true,if_false]
  have at_i:∀i j,t.place[i]? = some j->∃p∈xs,es[i]? = some (zay p.1,Value.ref p.2):=fun i j hi=>by
   have hs:i<es.size:=by rw [←ok.sz];exact (zh0 hi 0).1
   have hm:es[i]∈es.toList:=Array.mem_toList_iff.mpr (Array.getElem_mem hs)
   obtain ⟨p,hp,e⟩:=el.sub _ hm
   exact ⟨p,hp,by rw [Array.getElem?_eq_getElem hs,e]⟩
  split
  ·rename_i met hq
   rcases znb ok hN hl hb h2 hq h3 with ⟨m',i,q1,q2,q3,q4,q5,q6⟩|⟨q1,q2⟩
   ·cases q6
    dsimp only
    obtain ⟨p,hp,hei⟩:=at_i i _ q3
    have seen:wpAny (model prog w) A (searchCouldBeSeen (.ref x) ((es.filter (·.1 == zay k)).toList.map (·.2))) (fun b s'=>b=false/\s' = s) E s:=by
     refine ztk hkey (fun v hv=>?_) ⟨rfl,rfl⟩
     obtain ⟨e,he,rfl⟩:=List.mem_map.mp hv
     have he:e∈es.toList:=by
      rw [Array.toList_filter] at he
      exact (List.mem_filter.mp he).1
     obtain ⟨p,hp,rfl⟩:=el.sub _ he
     exact ⟨p.1,p.2,rfl,hxs p hp⟩
    have sameMem:t.sameMemory t.moves t.mask=some true:=by simp [sameMemory]
    have next:p.1≠k->∀(m'' i':Nat) (p':List Int × Addr),p'∈xs->m'' < m' + 1->t.place[i']? = some (pn t.mask (zay k) m'').j->es[i']? = some (zay p'.1,.ref p'.2)->p'.1≠k:=fun hne m'' i' p' hp' l1 l2 l3 e=>by
     rcases Nat.lt_or_ge m'' m with c|c
     ·exact h4 m'' i' p' hp' c l2 l3 e
     ·by_cases c2:m'' = m'
      ·subst c2
       have e1:=zh1 ok.ris q3
       have e2:=zh1 ok.ris l2
       rw [e1] at e2
       subst e2
       rw [hei] at l3
       have e3:=qoi l3
       injection e3 with e4 e5
       injection e5 with e5
       have i1:=hxs p hp
       have i2:=hxs p' hp'
       rw [←e5] at i2
       exact hne ((i1.inj i2).trans e)
      ·refine q5 m'' i' c (by omega) l2 ?_
       show ((es[i']?).map (·.1)).getD 0=_
       rw [l3,e];rfl
    rw [hei]
    dsimp only
    split
    ·refine wpAny_bind (wpAny_mono seen (fun b s' e=>?_) fun _ _ z=>z)
     obtain ⟨rfl,rfl⟩:=e
     simp only [Bool.false_eq_true,if_false]
     refine wpAny_bind (wpAny_holding (wpAny_eqBool_tuple hu (hxs p hp) hkey ?_))
     refine wpAny_bind (wpAny_setState_of ho hd ok.fits ?_)
     dsimp only
     by_cases hkk:p.1=k
     ·rw [decide_eq_true hkk]
      cases adding with
      | true=>exact wpAny_pure (yes ⟨p,hp,hkk⟩ none (fun z=>by cases z))
      | false =>
       simp only [Bool.false_and,Bool.false_eq_true,if_false]
       rw [sameMem]
       dsimp only
       rw [if_pos rfl,zh2 ok.ris q3]
       dsimp only
       rw [hei]
       dsimp only
       refine wpAny_bind ?_
       unfold isSame
       simp only [beq_self_eq_true,if_true]
       refine wpAny_pure (wpAny_bind (wpAny_pure ?_))
       simp only [if_true]
       exact wpAny_pure (yes ⟨p,hp,hkk⟩ (some i) fun _=>rfl)
     ·rw [decide_eq_false hkk]
      simp only [Bool.and_false,Bool.false_eq_true,if_false]
      rw [sameMem]
      dsimp only
      rw [if_pos rfl,zh2 ok.ris q3]
      dsimp only
      rw [hei]
      dsimp only
      refine wpAny_bind ?_
      unfold isSame
      simp only [beq_self_eq_true,if_true]
      refine wpAny_pure (wpAny_bind (wpAny_pure ?_))
      simp only [if_true]
      exact ih (m' + 1) _ (by omega) (by omega) rfl (next hkk)
    ·refine wpAny_bind (wpAny_holding (wpAny_eqBool_tuple hu (hxs p hp) hkey ?_))
     refine wpAny_bind (wpAny_setState_of ho hd ok.fits ?_)
     dsimp only
     by_cases hkk:p.1=k
     ·rw [decide_eq_true hkk]
      cases adding with
      | true=>exact wpAny_pure (yes ⟨p,hp,hkk⟩ none (fun z=>by cases z))
      | false =>
       simp only [Bool.false_and,Bool.false_eq_true,if_false]
       rw [sameMem]
       dsimp only
       rw [if_pos rfl,zh2 ok.ris q3]
       dsimp only
       rw [hei]
       dsimp only
       refine wpAny_bind ?_
       unfold isSame
       simp only [beq_self_eq_true,if_true]
       refine wpAny_pure (wpAny_bind (wpAny_pure ?_))
       simp only [if_true]
       exact wpAny_pure (yes ⟨p,hp,hkk⟩ (some i) fun _=>rfl)
     ·rw [decide_eq_false hkk]
      simp only [Bool.and_false,Bool.false_eq_true,if_false]
      rw [sameMem]
      dsimp only
      rw [if_pos rfl,zh2 ok.ris q3]
      dsimp only
      rw [hei]
      dsimp only
      refine wpAny_bind ?_
      unfold isSame
      simp only [beq_self_eq_true,if_true]
      refine wpAny_pure (wpAny_bind (wpAny_pure ?_))
      simp only [if_true]
      exact ih (m' + 1) _ (by omega) (by omega) rfl (next hkk)
   ·cases q2
    dsimp only
    refine wpAny_pure (no fun p hp e=>?_)
    obtain ⟨i,hi,hie⟩:=List.mem_iff_getElem.mp (el.sup p hp)
    rw [Array.length_toList] at hi
    have hei:es[i]? = some (zay p.1,.ref p.2):=by rw [Array.getElem?_eq_getElem hi,←hie];simp
    obtain ⟨n,e1,e2⟩:=ok.pr i _ _ hei
    rw [e] at e1 e2
    have hn:n<N:=by
     rcases Nat.lt_trichotomy n N with c|c|c
     ·exact c
     ·subst c;exact absurd ⟨i,e1⟩ hN
     ·exact absurd (e2 N c) hN
    rcases Nat.lt_or_ge n m with c|c
    ·exact h4 n i p hp c e1 hei e
    ·refine q1 n i c hn e1 ?_
     show ((es[i]?).map (·.1)).getD 0=_
     rw [hei,e];rfl
  ·rename_i hq
   exfalso
   rcases znb ok hN hl hb h2 rfl h3 with ⟨m',i,q1,q2,q3,q4,q5,q6⟩|⟨q1,q2⟩
   ·exact hq _ q6
   ·exact hq _ q2
end
noncomputable def ztl (o:Obj) (xs:List (List Int × Addr)):Prop:=o.ExactSet/\∃es ep t,o.data=.set es ep t/\TOk t es/\Els es xs
noncomputable def TSet (a:Addr) (xs:List (List Int × Addr)) (h:Heap):Prop:=∃o,h.get? a=some o/\ztl o xs
section
variable {prog:Program}{w:World}{A:Around}{E:Value->Shared->Prop}{s:Shared}{a x:Addr}{k:List Int}{xs:List (List Int × Addr)}
theorem TSet.typeIs (h:TSet a xs s.heap):s.TypeIs (.ref a) "set":=let ⟨o,ho,hc,_⟩:=h;⟨o,ho,hc.1⟩
theorem TSet.noDict (h:TSet a xs s.heap):∀b,Value.ref a=.ref b->∃ob,s.heap.get? b=some ob/\ob.dict=none:=fun b e=>by
 injection e with e;subst e;exact let ⟨o,ho,hc,_⟩:=h;⟨o,ho,hc.2.1⟩
theorem zne (x:Addr) (es:Array (Int × Value)):byScan (.ref x) es=false:=by simp [byScan,Value.scannable]
theorem setFind_t {Q:Option Nat->Shared->Prop}(hu:A.units<cLine) (hT:TSet a xs s.heap) (hxs:∀p∈xs,IsK prog w s.heap p.1 p.2) (hkey:IsK prog w s.heap k x)
  (h:∀r:Option Nat,r.isSome=decide (k∈xs.map (·.1))->Q r s):wpAny (model prog w) A (setFind a (.ref x) (zay k)) Q E s:=by
 obtain ⟨o,ho,hex,es,ep,t,hd,ok,el⟩:=hT
 obtain ⟨N,hb,hN,hl⟩:=ok.empty (zay k)
 unfold setFind setFindIn
 refine wpAny_bind (wpAny_setState_of ho hd ok.fits ?_)
 dsimp only
 rw [zne]
 simp only [Bool.false_eq_true,if_false]
 refine wpAny_bind ?_
 unfold setSearch
 have hm:=ok.sm
 refine znd hu ho hd ok el hxs hkey hN hl hb (fun hy r hr=>?_) (fun hn=>?_) 100000 0 none (by omega) (Nat.zero_le _) rfl (fun m' i p _ hm'=>by omega)
 ·obtain ⟨p,hp,e⟩:=hy
  exact wpAny_pure (h r (by rw [hr rfl,decide_eq_true (List.mem_map.mpr ⟨p,hp,e⟩)]))
 ·refine wpAny_pure (h none ?_)
  rw [decide_eq_false fun z=>?_]
  ·rfl
  ·obtain ⟨p,hp,e⟩:=List.mem_map.mp z;exact hn p hp e
theorem ztm {es:Array (Int × Value)}{p:Nat}(el:Els es xs):Els (insertAt es p (zay k,.ref x)) (xs++[(k,x)]):=by
 have pm:=insertAt_perm es p (zay k,Value.ref x)
 rw [Array.toList_push] at pm
 refine ⟨fun e he=>?_,fun q hq=>?_,?_⟩
 ·rcases List.mem_append.mp (pm.mem_iff.mp he) with he|he
  ·obtain ⟨q,hq,e1⟩:=el.sub e he;exact ⟨q,List.mem_append_left _ hq,e1⟩
  ·rw [List.mem_singleton] at he;subst he;exact ⟨(k,x),by simp,rfl⟩
 ·refine pm.mem_iff.mpr ?_
  rcases List.mem_append.mp hq with hq|hq
  ·exact List.mem_append_left _ (el.sup q hq)
  ·rw [List.mem_singleton] at hq;subst hq;simp
 ·rw [zer,el.len];simp
theorem setAdd_t {Q:Bool->Shared->Prop}(hu:A.units<cLine) (hT:TSet a xs s.heap) (hxs:∀p∈xs,IsK prog w s.heap p.1 p.2) (hkey:IsK prog w s.heap k x) (hz:xs.length<1000)
  (old:k∈xs.map (·.1)->Q false s) (new:k ∉ xs.map (·.1)->∀h',Heap.SameBut a s.heap h'->TSet a (xs++[(k,x)]) h'->Q true { s with heap:=h' }):wpAny (model prog w) A (setAddHashed a (.ref x) (zay k)) Q E s:=by
 obtain ⟨o,ho,hex,es,ep,t,hd,ok,el⟩:=hT
 obtain ⟨N,hb,hN,hl⟩:=ok.empty (zay k)
 have hm:=ok.sm
 unfold setAddHashed setAddHashedIn
 refine wpAny_holding (wpAny_bind (wpAny_setState_of ho hd ok.fits ?_))
 dsimp only
 rw [zne]
 simp only [Bool.false_eq_true,if_false]
 refine wpAny_bind ?_
 unfold setSearch
 refine znd hu ho hd ok el hxs hkey hN hl hb (fun hy r hr=>?_) (fun hn=>?_) 100000 0 none (by omega) (Nat.zero_le _) rfl (fun m' i p _ hm'=>by omega)
 ·obtain ⟨p,hp,e⟩:=hy
  exact wpAny_pure (old (List.mem_map.mpr ⟨p,hp,e⟩))
 ·dsimp only
  have hnew:=new fun z=>by obtain ⟨p,hp,e⟩:=List.mem_map.mp z;exact hn p hp e
  refine wpAny_bind (wpAny_setState_of ho hd ok.fits ?_)
  have els:=ztm (k:=k) (x:=x) (p:=(t.put (pn t.mask (zay k) N).j).2) el
  have hm1:(t.put (pn t.mask (zay k) N).j).1.mask=t.mask:=rfl
  have hf1:(t.put (pn t.mask (zay k) N).j).1.fill=es.size+1:=by rw [zkp ok.dm];show (insertAt t.place _ _).size+t.dummies.size=_;rw [zer,ok.dm,ok.sz];rfl
  have hp1:(t.put (pn t.mask (zay k) N).j).1.place.size=es.size+1:=by rw [zkp ok.dm];show (insertAt t.place _ _).size=_;rw [zer,ok.sz]
  have hsz:(insertAt es (t.put (pn t.mask (zay k) N).j).2 (zay k,Value.ref x)).size=es.size+1:=zer
  have put:=fun q=>ok.put (x:=.ref x) hN hl q
  generalize t.put (pn t.mask (zay k) N).j=tp at *
  obtain ⟨t1,p⟩:=tp
  dsimp only at *
  have step:∀b:Bool,wpAny (model prog w) A (do
    storeSet a (insertAt es p (zay k,Value.ref x)) (if b=true then t1 else { t1 with plain:=false })
    if (if b=true then t1 else { t1 with plain:=false }).tooFull=true then do
     setRelay a (grown (es.size+1))
     pure true
    else pure true) Q E s:=by
   intro b
   generalize ht2:(if b=true then t1 else { t1 with plain:=false })=t2
   have hm2:t2.mask=t.mask:=by rw [←ht2];split <;> exact hm1
   have hp2:t2.place.size=es.size+1:=by rw [←ht2];split <;> exact hp1
   have hf2:t2.fill=es.size+1:=by rw [←ht2];split <;> exact hf1
   have put2:(es.size+1)*5<t.mask*3->TOk t2 (insertAt es p (zay k,.ref x)):=fun q=>by
    rw [←ht2];split
    ·exact put q
    ·exact (put q).plain false
   refine wpAny_bind (wpAny_storeSet_of ho hd ?_ (by rw [hsz];have:=el.len;rw [sizeLine_eq];omega))
   have hg:(s.heap.update a (Obj.putSet (insertAt es p (zay k,.ref x)) t2)).get? a=some { o with data:=.set (insertAt es p (zay k,.ref x)) (ep+1) t2 }:=by
    have:=Heap.get?_update_self (Obj.putSet (insertAt es p (zay k,.ref x)) t2) ho (by rw [putSet_of _ _ hd];rfl)
    rw [putSet_of _ _ hd] at this;exact this
   have hsb1:=Heap.SameBut.update s.heap a (Obj.putSet (insertAt es p (zay k,.ref x)) t2)
   by_cases full:t2.tooFull=true
   ·rw [if_pos full]
    refine wpAny_bind ?_
    unfold setRelay
    have hsl:es.size=xs.length:=el.len
    obtain ⟨kk,s1,s2,s3,s4⟩:=zm8 (n:=grown (es.size+1)) (by unfold grown;rw [if_neg (by omega)];omega)
    have hfit:t2.fits (insertAt es p (zay k,Value.ref x)).size=true:=by
     have hro:=ok.ro
     obtain ⟨n,e1,e2⟩:=ok.pw
     have:2 ^ 3<=2 ^ n:=Nat.pow_le_pow_right (by decide) e2
     unfold SetTable.fits
     rw [hf2,hm2,hp2,hsz]
     simp
     omega
    obtain ⟨t3,order,es3,r1,r2,r3,r4,r5⟩:=zti (t:=t2) (es:=insertAt es p (zay k,Value.ref x)) (by omega) (by omega)
    rw [hsz] at r1
    refine wpAny_bind (wpAny_setState_of (s:={ s with heap:=s.heap.update a (Obj.putSet (insertAt es p (zay k,.ref x)) t2) }) hg rfl hfit ?_)
    dsimp only
    rw [if_neg (by rw [s2,sizeLine_eq];omega)]
    refine wpAny_bind ?_
    rw [r1]
    show wpAny _ _ (if ((order.filterMap ((insertAt es p (zay k,Value.ref x))[·]?)).size != (insertAt es p (zay k,Value.ref x)).size)=true then _ else _) _ _ _
    rw [r2,if_neg (by rw [r3];simp)]
    refine wpAny_pure ?_
    dsimp only
    refine wpAny_storeSet_of (s:={ s with heap:=s.heap.update a (Obj.putSet (insertAt es p (zay k,.ref x)) t2) }) hg rfl ?_ (by rw [r3,hsz,sizeLine_eq];omega)
    have hg2:((s.heap.update a (Obj.putSet (insertAt es p (zay k,.ref x)) t2)).update a (Obj.putSet es3 t3)).get? a=some { o with data:=.set es3 (ep+1+1) t3 }:=by
     have:=Heap.get?_update_self (Obj.putSet es3 t3) hg (by rw [putSet_of es3 t3 (o:={ o with data:=.set (insertAt es p (zay k,.ref x)) (ep+1) t2 }) rfl];rfl)
     rw [putSet_of es3 t3 (o:={ o with data:=.set (insertAt es p (zay k,.ref x)) (ep+1) t2 }) rfl] at this;exact this
    refine wpAny_pure (hnew _ (hsb1.trans (Heap.SameBut.update _ a _)) ⟨_,hg2,hex,_,_,_,rfl,r4,⟨fun e he=>els.sub e ((r5 e).mp he),fun q hq=>(r5 _).mpr (els.sup q hq),by rw [r3];exact els.len⟩⟩)
   ·rw [if_neg full]
    refine wpAny_pure (hnew _ hsb1 ⟨_,hg,hex,_,_,_,rfl,put2 ?_,els⟩)
    unfold SetTable.tooFull at full
    rw [hf2,hm2] at full
    simp at full
    exact full
  split
  ·refine wpAny_bind (ztj hkey ?_)
   exact step true
  ·refine wpAny_bind (wpAny_pure ?_)
   exact step true
end
end TS
namespace BF
noncomputable def lx:List Nat->List Nat->Prop
 | a :: u,b :: v=>a<b∨(a=b/\lx u v)
 | _,_=>False
noncomputable def sl (u v:List Nat):Prop:=u.length<v.length∨(u.length=v.length/\lx u v)
noncomputable def le (u v:List Nat):Prop:=sl u v∨u=v
theorem znf:∀u,¬lx u u
 | [],h=>h
 | a :: u,h=>by rcases h with h|⟨_,h⟩;omega;exact znf u h
theorem zng:∀{u v w},lx u v->lx v w->lx u w
 | [],_,_,h,_=>h.elim
 | _ :: _,[],_,h,_=>h.elim
 | _ :: _,_ :: _,[],_,h=>h.elim
 | a :: u,b :: v,c :: w,h,g=>by
  rcases h with h|⟨h,h'⟩ <;> rcases g with g|⟨g,g'⟩
  ·exact .inl (by omega)
  ·exact .inl (by omega)
  ·exact .inl (by omega)
  ·exact .inr ⟨by omega,zng h' g'⟩
theorem znh:∀{u v:List Nat},u.length=v.length->u=v∨lx u v∨lx v u
 | [],[],_=>.inl rfl
 | [],_ :: _,h=>by simp at h
 | _ :: _,[],h=>by simp at h
 | a :: u,b :: v,h=>by
  rcases Nat.lt_trichotomy a b with c|c|c
  ·exact .inr (.inl (.inl c))
  ·subst c
   rcases znh (u:=u) (v:=v) (by simpa using h) with e|e|e
   ·exact .inl (by rw [e])
   ·exact .inr (.inl (.inr ⟨rfl,e⟩))
   ·exact .inr (.inr (.inr ⟨rfl,e⟩))
  ·exact .inr (.inr (.inl c))
theorem zkr (u:List Nat):¬sl u u:=fun h=>by
 rcases h with h|⟨_,h⟩
 ·omega
 ·exact znf u h
theorem zg2 {u v w:List Nat}(h:sl u v) (g:sl v w):sl u w:=by
 rcases h with h|⟨h,h'⟩ <;> rcases g with g|⟨g,g'⟩
 ·exact .inl (by omega)
 ·exact .inl (by omega)
 ·exact .inl (by omega)
 ·exact .inr ⟨by omega,zng h' g'⟩
theorem sl_tot (u v:List Nat):u=v∨sl u v∨sl v u:=by
 rcases Nat.lt_trichotomy u.length v.length with c|c|c
 ·exact .inr (.inl (.inl c))
 ·rcases znh c with e|e|e
  ·exact .inl e
  ·exact .inr (.inl (.inr ⟨c,e⟩))
  ·exact .inr (.inr (.inr ⟨c.symm,e⟩))
 ·exact .inr (.inr (.inl c))
theorem ztn {u v w:List Nat}(h:sl u v) (g:le v w):sl u w:=by
 rcases g with g|rfl
 ·exact zg2 h g
 ·exact h
theorem le_trans {u v w:List Nat}(h:le u v) (g:le v w):le u w:=by
 rcases h with h|rfl
 ·exact .inl (ztn h g)
 ·exact g
theorem zto {u v:List Nat}(h:le u v):u.length<=v.length:=by
 rcases h with (h|⟨h,_⟩)|rfl <;> omega
theorem zni:∀{u v:List Nat}(c d:Nat),u.length=v.length->lx u v->lx (u++[c]) (v++[d])
 | [],_,_,_,_,h=>h.elim
 | _ :: _,[],_,_,_,h=>h.elim
 | a :: u,b :: v,c,d,hl,h=>by
  rcases h with h|⟨h,h'⟩
  ·exact .inl h
  ·exact .inr ⟨h,zni c d (by simpa using hl) h'⟩
theorem zks {u v:List Nat}(c d:Nat) (h:sl u v):sl (u++[c]) (v++[d]):=by
 rcases h with h|⟨h,h'⟩
 ·exact .inl (by simpa using h)
 ·exact .inr ⟨by simpa using h,zni c d h h'⟩
theorem znj:∀(u:List Nat) {c d:Nat},c<d->lx (u++[c]) (u++[d])
 | [],_,_,h=>.inl h
 | _ :: u,_,_,h=>.inr ⟨rfl,znj u h⟩
theorem zi2 (u:List Nat) {c d:Nat}(h:c<d):sl (u++[c]) (u++[d]):=.inr ⟨by simp,znj u h⟩
theorem ztp {u v:List Nat}(a:Nat) (h:le u v):le (u++[a]) (v++[a]):=by
 rcases h with h|rfl
 ·exact .inl (zks a a h)
 ·exact .inr rfl
noncomputable abbrev P:=Nat × Nat
section
variable (A:Nat) (step:P->Nat->Option P) (fail:P->Nat->Bool)
noncomputable def walk:P->List Nat->Option P
 | p,[]=>some p
 | p,a :: w=>(step p a).bind fun q=>walk q w
noncomputable def Fails (p:P) (w:List Nat):Prop:=∃u b q,w=u++[b]/\b<A/\(∀a∈u,a<A)/\walk step p u=some q/\fail q b=true
noncomputable def Least (p:P) (w:List Nat):Prop:=Fails A step fail p w/\∀v,Fails A step fail p v->¬sl v w
end
section
variable {A:Nat}{step:P->Nat->Option P}{fail:P->Nat->Bool}
theorem zi3:∀(p:P) (u:List Nat) (a:Nat),walk step p (u++[a])=(walk step p u).bind fun q=>step q a
 | p,[],a=>by show (step p a).bind _=step p a;cases step p a <;> rfl
 | p,b :: u,a=>by
  show (step p b).bind _=((step p b).bind _).bind _
  cases step p b with
  | none=>rfl
  | some q=>exact zi3 q u a
structure Bf (A:Nat) (step:P->Nat->Option P) (fail:P->Nat->Bool) (p0:P) (ps:List P) (ws:List (List Nat)) (i c:Nat):Prop where
 len:ws.length=ps.length
 z:ps[0]? = some p0/\ws[0]? = some []
 wk:∀(k:Nat) q w,ps[k]? = some q->ws[k]? = some w->walk step p0 w=some q/\∀a∈w,a<A
 inc:∀(k l:Nat) u v,k<l->ws[k]? = some u->ws[l]? = some v->sl u v
 cl:∀(k:Nat) q w a q',((k<i/\a<A)∨(k=i/\a<c))->ps[k]? = some q->ws[k]? = some w->step q a=some q'->∃(l:Nat) (u:List Nat),ps[l]? = some q'/\ws[l]? = some u/\le u (w++[a])
 nf:∀(k:Nat) q a,((k<i/\a<A)∨(k=i/\a<c))->ps[k]? = some q->fail q a=false
 top:∀(k:Nat) w u,ws[k]? = some w->ws[i]? = some u->sl w (u++[c])
 nd:ps.Nodup
theorem Bf.start (p0:P):Bf A step fail p0 [p0] [[]] 0 0:=by
 have one:∀(k:Nat) w,([[]]:List (List Nat))[k]? = some w->k=0/\w=[]:=fun k w h=>by
  cases k with
  | zero=>exact ⟨rfl,by simpa using h.symm⟩
  | succ k=>simp at h
 refine ⟨rfl,⟨rfl,rfl⟩,fun k q w h1 h2=>?_,fun k l u v hkl h1 h2=>?_,fun k q w a q' h=>?_,fun k q a h=>?_,fun k w u h1 h2=>?_,by simp⟩
 ·obtain ⟨rfl,rfl⟩:=one k w h2
  have:p0=q:=by simpa using h1
  subst this
  exact ⟨rfl,fun a ha=>by simp at ha⟩
 ·have:=(one k u h1).1;have:=(one l v h2).1;omega
 ·omega
 ·omega
 ·obtain ⟨rfl,rfl⟩:=one k w h1
  obtain ⟨_,rfl⟩:=one 0 u h2
  exact .inl (by simp)
section
variable {p0 q q':P}{ps:List P}{ws:List (List Nat)}{w:List Nat}{i c:Nat}
theorem get_snoc {α:Type}{l:List α}{x y:α}{k:Nat}(h:(l++[x])[k]? = some y):l[k]? = some y∨(k=l.length/\y=x):=by
 rcases Nat.lt_trichotomy k l.length with hk|hk|hk
 ·rw [List.getElem?_append_left hk] at h;exact .inl h
 ·subst hk;rw [List.getElem?_append_right (qlr _)] at h;exact .inr ⟨rfl,by simpa using h.symm⟩
 ·rw [List.getElem?_eq_none (by simp;omega)] at h;cases h
theorem get_left {α:Type}{l:List α}{x y:α}{k:Nat}(h:l[k]? = some y):(l++[x])[k]? = some y:=by
 rw [List.getElem?_append_left (qme h).1];exact h
theorem Bf.push (b:Bf A step fail p0 ps ws i c) (hc:c<A) (hq:ps[i]? = some q) (hw:ws[i]? = some w) (hf:fail q c=false) (hs:step q c=some q') (hn:q' ∉ ps):Bf A step fail p0 (ps++[q']) (ws++[w++[c]]) i (c+1):=by
 have hiL:=(qme hq).1
 refine ⟨by simp [b.len],⟨get_left b.z.1,get_left b.z.2⟩,fun k r u h1 h2=>?_,fun k l u v hkl h1 h2=>?_,fun k r u a r' h h1 h2 h3=>?_,fun k r a h h1=>?_,fun k u v h1 h2=>?_,?_⟩
 ·rcases get_snoc h1 with g1|⟨e1,rfl⟩ <;> rcases get_snoc h2 with g2|⟨e2,rfl⟩
  ·exact b.wk k r u g1 g2
  ·have:=(qme g1).1;have:=b.len;omega
  ·have:=(qme g2).1;have:=b.len;omega
  ·obtain ⟨h1,h2⟩:=b.wk i q w hq hw
   refine ⟨by rw [zi3,h1];exact hs,fun a ha=>?_⟩
   rcases List.mem_append.mp ha with ha|ha
   ·exact h2 a ha
   ·have:a=c:=by simpa using ha
    omega
 ·rcases get_snoc h1 with g1|⟨e1,rfl⟩ <;> rcases get_snoc h2 with g2|⟨e2,rfl⟩
  ·exact b.inc k l u v hkl g1 g2
  ·exact b.top k u w g1 hw
  ·have:=(qme g2).1;omega
  ·omega
 ·have hk:k<ps.length:=by omega
  have g1:ps[k]? = some r:=by rw [List.getElem?_append_left hk] at h1;exact h1
  have g2:ws[k]? = some u:=by rw [List.getElem?_append_left (by rw [b.len];exact hk)] at h2;exact h2
  by_cases hkc:k=i/\a=c
  ·obtain ⟨rfl,rfl⟩:=hkc
   rw [hq] at g1;cases g1
   rw [hw] at g2;cases g2
   rw [hs] at h3;cases h3
   exact ⟨ps.length,w++[a],by rw [List.getElem?_append_right (qlr _)];simp,by rw [←b.len,List.getElem?_append_right (qlr _)];simp,.inr rfl⟩
  ·obtain ⟨l,v,e1,e2,e3⟩:=b.cl k r u a r' (by omega) g1 g2 h3
   exact ⟨l,v,get_left e1,get_left e2,e3⟩
 ·have hk:k<ps.length:=by omega
  have g1:ps[k]? = some r:=by rw [List.getElem?_append_left hk] at h1;exact h1
  by_cases hkc:k=i/\a=c
  ·obtain ⟨rfl,rfl⟩:=hkc
   rw [hq] at g1;cases g1
   exact hf
  ·exact b.nf k r a (by omega) g1
 ·have g2:ws[i]? = some v:=by rw [List.getElem?_append_left (by rw [b.len];exact hiL)] at h2;exact h2
  rw [hw] at g2;cases g2
  rcases get_snoc h1 with g1|⟨e1,rfl⟩
  ·exact zg2 (b.top k u w g1 hw) (zi2 w (Nat.lt_succ_self c))
  ·exact zi2 w (Nat.lt_succ_self c)
 ·rw [List.nodup_append]
  exact ⟨b.nd,by simp,fun x hx y hy=>by have:y=q':=by simpa using hy
                                        subst this;exact fun e=>hn (e ▸ hx)⟩
theorem Bf.skip (b:Bf A step fail p0 ps ws i c) (hc:c<A) (hq:ps[i]? = some q) (hw:ws[i]? = some w) (hf:fail q c=false) (hs:∀q',step q c=some q'->q'∈ps):Bf A step fail p0 ps ws i (c+1):=by
 refine ⟨b.len,b.z,b.wk,b.inc,fun k r u a r' h h1 h2 h3=>?_,fun k r a h h1=>?_,fun k u v h1 h2=>?_,b.nd⟩
 ·by_cases hkc:k=i/\a=c
  ·obtain ⟨rfl,rfl⟩:=hkc
   rw [hq] at h1;cases h1
   rw [hw] at h2;cases h2
   obtain ⟨l,hl⟩:=List.mem_iff_getElem?.mp (hs r' h3)
   have hll:=(qme hl).1
   have hwl:l<ws.length:=by rw [b.len];exact hll
   have hv:ws[l]? = some ws[l]:=qge hwl
   exact ⟨l,_,hl,hv,.inl (b.top l _ w hv hw)⟩
  ·exact b.cl k r u a r' (by omega) h1 h2 h3
 ·by_cases hkc:k=i/\a=c
  ·obtain ⟨rfl,rfl⟩:=hkc
   rw [hq] at h1;cases h1
   exact hf
  ·exact b.nf k r a (by omega) h1
 ·exact zg2 (b.top k u v h1 h2) (zi2 v (Nat.lt_succ_self c))
theorem Bf.next (b:Bf A step fail p0 ps ws i A):Bf A step fail p0 ps ws (i+1) 0:=by
 refine ⟨b.len,b.z,b.wk,b.inc,fun k r u a r' h h1 h2 h3=>?_,fun k r a h h1=>?_,fun k u v h1 h2=>?_,b.nd⟩
 ·exact b.cl k r u a r' (by omega) h1 h2 h3
 ·exact b.nf k r a (by omega) h1
 ·have hl:=(qme h2).1
  have hi:ws[i]? = some ws[i]:=qge (by omega)
  exact zg2 (b.top k u _ h1 hi) (zks A 0 (b.inc i (i+1) _ v (by omega) hi h2))
theorem Bf.key (b:Bf A step fail p0 ps ws i c) (u:List Nat) (hu:∀a∈u,a<A):∀q,walk step p0 u=some q->∃u1 u2 k w' q1,u=u1++u2/\ps[k]? = some q1/\ws[k]? = some w'/\walk step p0 u1=some q1/\le w' u1/\((u2=[]/\q1=q)∨i<=k):=by
 have gen:∀(n:Nat) (u:List Nat),u.length=n->(∀a∈u,a<A)->∀q,walk step p0 u=some q->∃u1 u2 k w' q1,u=u1++u2/\ps[k]? = some q1/\ws[k]? = some w'/\walk step p0 u1=some q1/\le w' u1/\((u2=[]/\q1=q)∨i<=k):=by
  intro n
  induction n with
  | zero =>
   intro u hl hu q hq
   have:u=[]:=List.length_eq_zero_iff.mp hl
   subst this
   cases hq
   exact ⟨[],[],0,[],p0,rfl,b.z.1,b.z.2,rfl,.inr rfl,.inl ⟨rfl,rfl⟩⟩
  | succ n ih =>
   intro u hl hu q hq
   obtain ⟨u',a,rfl⟩:∃u' a,u=u'++[a]:=by
    have hne:u≠[]:=fun e=>by subst e;simp at hl
    exact ⟨u.dropLast,u.getLast hne,(List.dropLast_concat_getLast hne).symm⟩
   rw [zi3] at hq
   cases hq':walk step p0 u' with
   | none=>rw [hq'] at hq;cases hq
   | some q1 =>
    rw [hq'] at hq
    have hq:step q1 a=some q:=hq
    obtain ⟨u1,u2,k,w',q2,e0,e1,e2,e3,e4,e5⟩:=ih u' (by simpa using hl) (fun x hx=>hu x (List.mem_append_left _ hx)) q1 hq'
    by_cases hk:i<=k
    ·exact ⟨u1,u2++[a],k,w',q2,by rw [e0,qaa],e1,e2,e3,e4,.inr hk⟩
    ·rcases e5 with ⟨rfl,rfl⟩|e5
     ·rw [List.append_nil] at e0
      subst e0
      obtain ⟨l,v,g1,g2,g3⟩:=b.cl k q2 w' a q (.inl ⟨by omega,hu a (by simp)⟩) e1 e2 hq
      exact ⟨u'++[a],[],l,v,q,by simp,g1,g2,by rw [zi3,hq'];exact hq,le_trans g3 (ztp a e4),.inl ⟨rfl,rfl⟩⟩
     ·exact absurd e5 hk
 exact gen u.length u rfl hu
theorem Bf.found (b:Bf A step fail p0 ps ws i c) (hc:c<A) (hq:ps[i]? = some q) (hw:ws[i]? = some w) (hf:fail q c=true):Least A step fail p0 (w++[c]):=by
 obtain ⟨hwk,hwa⟩:=b.wk i q w hq hw
 refine ⟨⟨w,c,q,rfl,hc,hwa,hwk,hf⟩,?_⟩
 rintro v ⟨u,d,r,rfl,hd,hu,hr,hfr⟩ hs
 obtain ⟨u1,u2,k,w',q1,e0,e1,e2,e3,e4,e5⟩:=b.key u hu r hr
 have wle:i<=k->le w w':=fun hk=>by
  rcases Nat.lt_or_ge i k with h|h
  ·exact .inl (b.inc i k w w' h hw e2)
  ·have:i=k:=by omega
   subst this
   rw [hw] at e2;cases e2;exact .inr rfl
 have fin:i<=k->False:=fun hk=>by
  have h1:le w u1:=le_trans (wle hk) e4
  have hl:=zto h1
  have hlu:u.length=u1.length+u2.length:=by rw [e0,qla]
  by_cases hlen:w.length<u.length
  ·rcases hs with h|⟨h,_⟩ <;> (simp at h;omega)
  ·have hu2:u2=[]:=List.length_eq_zero_iff.mp (by omega)
   subst hu2
   rw [List.append_nil] at e0
   subst e0
   rcases h1 with h1|rfl
   ·exact zkr _ (zg2 hs (zks c d h1))
   ·have hqr:q=r:=by rw [hwk] at hr;exact qoi hr
    subst hqr
    have hdc:c<=d:=by
     rcases Nat.lt_or_ge d c with h|h
     ·have:=b.nf i q d (.inr ⟨rfl,h⟩) hq
      rw [hfr] at this;cases this
     ·exact h
    rcases Nat.lt_or_ge c d with h|h
    ·exact zkr _ (zg2 hs (zi2 w h))
    ·have:c=d:=by omega
     subst this
     exact zkr _ hs
 rcases e5 with ⟨rfl,rfl⟩|e5
 ·by_cases hk:i<=k
  ·exact fin hk
  ·have:=b.nf k q1 d (.inl ⟨by omega,hd⟩) e1
   rw [hfr] at this;cases this
 ·exact fin e5
theorem Bf.none (b:Bf A step fail p0 ps ws ps.length 0):∀v,¬Fails A step fail p0 v:=by
 rintro v ⟨u,d,r,rfl,hd,hu,hr,hfr⟩
 obtain ⟨u1,u2,k,w',q1,e0,e1,e2,e3,e4,e5⟩:=b.key u hu r hr
 have hk:=(qme e1).1
 rcases e5 with ⟨rfl,rfl⟩|e5
 ·have:=b.nf k q1 d (.inl ⟨hk,hd⟩) e1
  rw [hfr] at this;cases this
 ·omega
end
noncomputable def Fn (A:Nat) (step:P->Nat->Option P) (fail:P->Nat->Bool) (n:Nat) (p:P):Prop:=∃w,Fails A step fail p w/\w.length=n
end
theorem few {n:Nat}:∀(l:List Nat),l.Nodup->(∀x∈l,x<n)->l.length<=n:=by
 intro l hd hl
 rcases Nat.lt_or_ge n l.length with h|h
 ·exfalso
  refine TS.pigeon n (fun a=>l[a]?) (fun a ha=>?_) fun a b i l1 l2 e1 e2=>?_
  ·have:a<l.length:=by omega
   exact ⟨l[a],qge this,hl _ (qem this)⟩
  ·have h1:a<l.length:=by omega
   exact (List.getElem?_inj h1 hd).mp (e1.trans e2.symm)
 ·exact h
theorem few2 {n m:Nat}(l:List P) (hd:l.Nodup) (hl:∀x∈l,x.1<n/\x.2<m):l.length<=n*m:=by
 have:=few (n:=n*m) (l.map fun x=>x.1*m+x.2) (by
  unfold List.Nodup
  rw [List.pairwise_map]
  refine List.Pairwise.imp_of_mem (fun {x y} hx hy hne e=>hne ?_) hd
  ·skip
   obtain ⟨h1,h2⟩:=hl x hx
   obtain ⟨h3,h4⟩:=hl y hy
   have e1:x.2=y.2:=by
    have a1:(x.1*m+x.2) % m=x.2:=by rw [Nat.mul_comm,Nat.mul_add_mod];exact Nat.mod_eq_of_lt h2
    have a2:(y.1*m+y.2) % m=y.2:=by rw [Nat.mul_comm,Nat.mul_add_mod];exact Nat.mod_eq_of_lt h4
    rw [←a1,←a2];exact congrArg (· % m) e
   have e2:x.1=y.1:=by
    have:x.1*m=y.1*m:=by omega
    exact Nat.eq_of_mul_eq_mul_right (by omega) this
   exact Prod.ext e2 e1) (fun z hz=>by
  obtain ⟨x,hx,rfl⟩:=List.mem_map.mp hz
  obtain ⟨h1,h2⟩:=hl x hx
  calc x.1*m+x.2<x.1*m+m:=by omega
   _=(x.1+1)*m:=by rw [Nat.add_mul,Nat.one_mul]
   _<=n*m:=Nat.mul_le_mul_right m h1)
 simpa using this
end BF
namespace SP
open PySem PySem.W PyProof.Rows
inductive Ok (lt:Nat->Nat->Bool) (n:Nat) {α:Type} (G:α->Prop):KasT α->Prop where
 | ret {a:α} (h:G a):Ok lt n G (.ret a)
 | ask {i j:Nat} {k:Bool->KasT α} (hi:i<n) (hj:j<n) (h:Ok lt n G (k (lt i j))):Ok lt n G (.ask i j k)
theorem Ok.bind {lt:Nat->Nat->Bool}{n:Nat}{α β:Type}{G:β->Prop}{G':α->Prop}{t:KasT α}{f:α->KasT β}(h:Ok lt n G' t) (hf:∀a,G' a->Ok lt n G (f a)):Ok lt n G (t.bind f):=by
 induction h with
 | ret h=>exact hf _ h
 | ask hi hj _ ih=>exact .ask hi hj ih
section
variable {r:Nat->Int}{n:Nat}
noncomputable def lt (r:Nat->Int) (i j:Nat):Bool:=decide (r i<r j)
noncomputable def at' (r:Nat->Int) (p:Array Nat) (k:Nat):Int:=r (p.getD k 0)
noncomputable def Pm (n:Nat) (p:Array Nat):Prop:=p.Perm (List.range n).toArray
noncomputable def Up (r:Nat->Int) (p:Array Nat) (m:Nat):Prop:=∀i j,i<j->j<m->at' r p i<at' r p j
noncomputable def Inj (r:Nat->Int) (n:Nat):Prop:=∀i j,i<n->j<n->r i=r j->i=j
theorem Pm.size {p:Array Nat}(h:Pm n p):p.size=n:=by
 have:=h.size_eq;simpa using this
theorem Pm.lt {p:Array Nat}(h:Pm n p) {k:Nat}(hk:k<n):p.getD k 0<n:=by
 have hs:=h.size
 have e:p.getD k 0=p[k]'(by omega):=by simp [hs,hk]
 have:=(Array.perm_iff_toList_perm.mp h).mem_iff (a:=p[k]'(by omega))
 rw [e]
 have h1:p[k]'(by omega)∈p.toList:=by simp
 simpa using this.mp h1
theorem at_of {p q:Array Nat}{i j:Nat}(h:p[i]? = q[j]?):at' r p i=at' r q j:=by
 unfold at'
 have:p.getD i 0=q.getD j 0:=by simp only [Array.getD_eq_getD_getElem?,h]
 rw [this]
end
end SP
namespace SG
open PySem PySem.W PyProof.Rows SP
noncomputable def zdm:Bool->Keyed->Array Keyed->Nat->Nat->Nat->StateT SortSt Sem (Option Nat):=sortPriv% PySem.Builtin.gallop
theorem ztq (left:Bool) (key:Keyed) (arr:Array Keyed) (base n hint:Nat):zdm left key arr base n hint=(do
 let beyond (i:Nat):StateT SortSt Sem (Option Bool):=do
  let x ←elem' arr (base+i)
  if left then lt' x key else return (←lt' key x).map (!·)
 let mut lastofs:=0
 let mut ofs:=1
 let mut lo:=0
 let mut hi:=0
 let some right ←beyond hint|return none
 if right then
  let maxofs:=n-hint
  for _ in [0:n] do
   if ofs ≥ maxofs then break
   let some more ←beyond (hint+ofs)|return none
   if !more then break
   lastofs:=ofs
   ofs:=2*ofs+1
  lo:=hint+lastofs+1
  hi:=hint+min ofs maxofs
 else
  let maxofs:=hint+1
  for _ in [0:n] do
   if ofs ≥ maxofs then break
   let some found ←beyond (hint-ofs)|return none
   if found then break
   lastofs:=ofs
   ofs:=2*ofs+1
  lo:=hint+1-min ofs maxofs
  hi:=hint-lastofs
 for _ in [0:n] do
  if lo ≥ hi then break
  let m:=lo+(hi-lo) / 2
  let some more ←beyond m|return none
  if more then lo:=m+1 else hi:=m
 return some hi):=rfl
section
variable {M:Model}{A:Around}{E:Value->Shared->Prop}{σ β:Type}
theorem za6 {c:Prop} [Decidable c] {a b:StateT σ Sem β}{Q:β->σ->Shared->Prop}{st:σ}{s:Shared}(h1:c->kasC M A E a Q st s) (h2:¬c->kasC M A E b Q st s):kasC M A E (if c then a else b) Q st s:=by
 by_cases h:c
 ·rw [if_pos h];exact h1 h
 ·rw [if_neg h];exact h2 h
theorem zcx {f:Nat->β->StateT σ Sem (ForInStep β)}{s:Shared}(I:Nat->β->σ->Prop) {Q:β->σ->Shared->Prop}
  (step:∀k x b st,I (k+1) b st->kasC M A E (f x b) (fun r st' s'=>s' = s/\match r with | .done b'=>Q b' st' s | .yield b'=>I k b' st') st s)
  (fin:∀b st,I 0 b st->Q b st s) {n:Nat} {b:β} {st:σ} (h:I n b st):kasC M A E (forIn [0:n] b f) Q st s:=by
 refine kasC_range ?_
 have go:∀(k:Nat) (l:List Nat) (b:β) (st:σ),l.length=k->I k b st->kasC M A E (forIn l b f) Q st s:=by
  intro k
  induction k with
  | zero =>
   intro l b st hl h
   cases l with
   | nil=>exact kasC_nil (fin b st h)
   | cons _ _=>simp at hl
  | succ k ih =>
   intro l b st hl h
   cases l with
   | nil=>simp at hl
   | cons x l =>
    refine kasC_cons ?_
    have:=step k x b st h
    unfold kasC at this ⊢
    refine wpAny_mono this (fun r s' hr=>?_) fun _ _ e=>e
    obtain ⟨rfl,hr⟩:=hr
    obtain ⟨r,st'⟩:=r
    cases r with
    | done b'=>exact hr
    | yield b'=>exact ih l b' st' (by simpa using hl) hr
 exact go n _ b st (by rw [List.length_range'];omega) h
end
section
variable {M:Model}{A:Around}{E:Value->Shared->Prop}{σ α:Type}
theorem za7 {m:StateT σ Sem α}{Q Q':α->σ->Shared->Prop}{st:σ}{s:Shared}(h:kasC M A E m Q' st s) (k:∀a st' s',Q' a st' s'->Q a st' s'):kasC M A E m Q st s:=by
 unfold kasC at h ⊢
 exact wpAny_mono h (fun r s' hr=>k r.1 r.2 s' hr) fun _ _ e=>e
end
section
variable {prog:Program}{w:World}{A:Around}{E:Value->Shared->Prop}{κ:SortKind}{it:Array Keyed}{N:Nat}{r:Nat->Int}{s:Shared}
noncomputable def Asks (prog:Program) (w:World) (A:Around) (κ:SortKind) (it:Array Keyed) (N:Nat) (r:Nat->Int) (s:Shared):Prop:=∀i j (C:Bool->Shared->Prop),i<N->j<N->C (SP.lt r i j) s->kas_cmp prog w A κ it i j C s
theorem zh4 (hc:Asks prog w A κ it N r s) {i j:Nat}(hi:i<N) (hj:j<N) {st:SortSt}(hk:kindOf st=κ) {Q:Option Bool->SortSt->Shared->Prop}(h:Q (some (decide (r i<r j))) st s):kasC (model prog w) A E (lt' (kas_item it i) (kas_item it j)) Q st s:=by
 rw [lt'_eq]
 refine kasC_bind (kasC_get ?_)
 have h1:=hc i j (fun c s'=>Q (some c) st s') hi hj h
 unfold kas_cmp at h1
 rw [←hk] at h1
 refine kasC_bind (kasC_lift (wpAny_attempt (wpAny_mono h1 (fun c s' hc=>?_) fun _ _ hF=>hF.elim)))
 exact kasC_pure hc
theorem zi4 {q:Array Nat}{i:Nat}(hi:i<q.size) {st:SortSt}{Q:Keyed->SortSt->Shared->Prop}(h:Q (kas_item it (q.getD i 0)) st s):kasC (model prog w) A E (elem' (q.map (kas_item it)) i) Q st s:=by
 rw [elem'_eq]
 have e:(q.map (kas_item it))[i]? = some (kas_item it (q.getD i 0)):=by
  have e:q.getD i 0=q[i]:=by simp [hi]
  rw [e];simp [hi]
 rw [e]
 exact kasC_pure h
structure Seg (N:Nat) (r:Nat->Int) (q:Array Nat) (base n:Nat):Prop where
 sz:base+n<=q.size
 lt:∀i,i<q.size->q.getD i 0<N
 up:∀i j,i<j->j<n->SP.at' r q (base+i)<SP.at' r q (base+j)
theorem ztr (x y:Int) (h:x≠y):(!decide (y<x))=decide (x<y):=by
 by_cases z:y<x
 ·rw [decide_eq_true z,decide_eq_false (by omega)];rfl
 ·rw [decide_eq_false z,decide_eq_true (by omega)];rfl
theorem zh5 (hc:Asks prog w A κ it N r s) {q:Array Nat}{base n key i:Nat}{left:Bool}(sg:Seg N r q base n) (hk:key<N) (hi:i<n) (hne:SP.at' r q (base+i)≠r key) {st:SortSt}(hκ:kindOf st=κ) {Q:Option Bool->SortSt->Shared->Prop}(h:Q (some (decide (SP.at' r q (base+i)<r key))) st s) :
  kasC (model prog w) A E (do
   let x ←elem' (q.map (kas_item it)) (base+i)
   if left then lt' x (kas_item it key) else return (←lt' (kas_item it key) x).map (!·)) Q st s:=by
 have sz:=sg.sz
 refine kasC_bind (zi4 (by omega) ?_)
 have hq:=sg.lt (base+i) (by omega)
 cases left with
 | true=>exact zh4 hc hq hk hκ h
 | false =>
  refine kasC_bind (zh4 hc hk hq hκ (kasC_pure ?_))
  have e:(!decide (r key<r (q.getD (base+i) 0)))=decide (SP.at' r q (base+i)<r key):=ztr _ _ hne
  show Q (some (!decide (r key<r (q.getD (base+i) 0)))) st s
  rw [e];exact h
theorem zkt (hc:Asks prog w A κ it N r s) {q:Array Nat}{base n hint key:Nat}{left:Bool}(sg:Seg N r q base n) (hk:key<N) (hh:hint<n) (hne:∀i,i<n->SP.at' r q (base+i)≠r key) {st:SortSt}(hκ:kindOf st=κ) {Q:Option Nat->SortSt->Shared->Prop}
  (h:∀k,k<=n->(∀i,i<k->SP.at' r q (base+i)<r key)->(∀i,k<=i->i<n->r key<SP.at' r q (base+i))->Q (some k) st s):kasC (model prog w) A E (zdm left (kas_item it key) (q.map (kas_item it)) base n hint) Q st s:=by
 rw [ztq]
 dsimp only
 refine kasC_bind (zh5 hc sg hk hh (hne hint hh) hκ ?_)
 dsimp only
 obtain ⟨B,hB⟩:∃B:Nat->Prop,B=fun i=>SP.at' r q (base+i)<r key:=⟨_,rfl⟩
 have hBi:∀i,B i=(SP.at' r q (base+i)<r key):=fun i=>by rw [hB]
 have mono:∀i j,i<j->j<n->B j->B i:=fun i j h1 h2 h3=>by
  rw [hBi] at h3 ⊢
  exact Int.lt_trans (sg.up i j h1 h2) h3
 have not_B:∀i,i<n->¬B i->r key<SP.at' r q (base+i):=fun i h1 h2=>by
  rw [hBi] at h2
  have:=hne i h1
  omega
 simp only [←hBi] at h
 by_cases hb0:B hint
 ·rw [if_pos (decide_eq_true (by rw [←hBi];exact hb0))]
  refine kasC_bind (za7 (zcx (s:=s) (fun k (b:Option (Option Nat) × Nat × Nat) st'=>st' = st/\b.1=none/\b.2.1<b.2.2/\hint+b.2.1<n/\B (hint+b.2.1)/\n+1<=b.2.2+k) (Q:=fun (b:Option (Option Nat) × Nat × Nat) st' s'=>s' = s/\st' = st/\b.1=none/\b.2.1<b.2.2/\hint+b.2.1<n/\B (hint+b.2.1)/\(n-hint<=b.2.2∨(hint+b.2.2<n/\¬B (hint+b.2.2)))) ?_ ?_ (n:=n) (b:=(none,0,1)) (st:=st) ⟨rfl,rfl,Nat.zero_lt_one,hh,hb0,by show n+1<=1+n;omega⟩) ?_)
  ·rintro k x ⟨b1,la,of⟩ st' ⟨rfl,rfl,h1,h2,h3,h4⟩
   dsimp only at h1 h2 h3 h4 ⊢
   refine za6 (fun hge=>?_) (fun hge=>?_)
   ·exact kasC_pure ⟨rfl,rfl,rfl,rfl,h1,h2,h3,.inl hge⟩
   ·have hm:hint+of<n:=by omega
    refine kasC_bind (zh5 hc sg hk hm (hne _ hm) hκ ?_)
    dsimp only
    by_cases hb:B (hint+of)
    ·rw [decide_eq_true (by rw [←hBi];exact hb),if_neg (by simp)]
     exact kasC_pure ⟨rfl,rfl,rfl,(by show of<2*of+1;omega),hm,hb,(by show n+1<=2*of+1+k;omega)⟩
    ·rw [decide_eq_false (by rw [←hBi];exact hb),if_pos (by rfl)]
     exact kasC_pure ⟨rfl,rfl,rfl,rfl,h1,h2,h3,.inr ⟨hm,hb⟩⟩
  ·rintro ⟨b1,la,of⟩ st' ⟨rfl,rfl,h1,h2,h3,h4⟩
   dsimp only at h1 h2 h3 h4
   exact ⟨rfl,rfl,rfl,h1,h2,h3,.inl (by show n-hint<=of;omega)⟩
  ·rintro ⟨b1,la,of⟩ st' s' ⟨hs,hst,hb1,h1,h2,h3,h4⟩
   dsimp only at hb1 h1 h2 h3 h4 ⊢
   subst hb1
   rw [hs,hst]
   have l1:hint+la+1<=hint+min of (n-hint):=by omega
   have l2:hint+min of (n-hint)<=n:=by omega
   have l3:∀i,i<hint+la+1->B i:=fun i hi=>by
    by_cases e:i=hint+la
    ·rw [e];exact h3
    ·exact mono i _ (by omega) h2 h3
   have l4:∀i,hint+min of (n-hint)<=i->i<n->¬B i:=fun i hi1 hi2 hb=>by
    rcases h4 with z|⟨z1,z2⟩
    ·omega
    ·by_cases e:i=hint+of
     ·rw [e] at hb;exact z2 hb
     ·exact z2 (mono _ i (by omega) hi2 hb)
   refine kasC_bind (za7 (zcx (s:=s) (fun k (b:Option (Option Nat) × Nat × Nat) st'=>st' = st/\b.1=none/\b.2.1<=b.2.2/\b.2.2<=n/\(∀i,i<b.2.1->B i)/\(∀i,b.2.2<=i->i<n->¬B i)/\b.2.2<=b.2.1+k) (Q:=fun (b:Option (Option Nat) × Nat × Nat) st' s'=>s' = s/\st' = st/\b.1=none/\b.2.1=b.2.2/\b.2.2<=n/\(∀i,i<b.2.1->B i)/\(∀i,b.2.2<=i->i<n->¬B i)) ?_ ?_ ⟨rfl,rfl,l1,l2,l3,l4,Nat.le_trans l2 (Nat.le_add_left _ _)⟩) ?_)
   ·rintro k x ⟨b1,lo,hi⟩ st' ⟨rfl,rfl,h1,h2,h3,h4,h5⟩
    dsimp only at h1 h2 h3 h4 h5 ⊢
    refine za6 (fun hge=>?_) (fun hge=>?_)
    ·exact kasC_pure ⟨rfl,rfl,rfl,rfl,(by show lo=hi;omega),h2,h3,h4⟩
    ·have hm:lo+(hi-lo) / 2<n:=by omega
     refine kasC_bind (zh5 hc sg hk hm (hne _ hm) hκ ?_)
     dsimp only
     by_cases hb:B (lo+(hi-lo) / 2)
     ·rw [if_pos (decide_eq_true (by rw [←hBi];exact hb))]
      refine kasC_pure ⟨rfl,rfl,rfl,?_,h2,fun i hi2=>?_,h4,?_⟩
      ·show lo+(hi-lo) / 2+1<=hi;omega
      ·have hi2:i<lo+(hi-lo) / 2+1:=hi2
       by_cases e:i=lo+(hi-lo) / 2
       ·rw [e];exact hb
       ·exact mono i _ (by omega) hm hb
      ·show hi<=lo+(hi-lo) / 2+1+k;omega
     ·rw [if_neg (by rw [decide_eq_true_iff,←hBi];exact hb)]
      refine kasC_pure ⟨rfl,rfl,rfl,?_,?_,h3,fun i hi2 hi3 hb2=>?_,?_⟩
      ·show lo<=lo+(hi-lo) / 2;omega
      ·show lo+(hi-lo) / 2<=n;omega
      ·have hi2:lo+(hi-lo) / 2<=i:=hi2
       by_cases e:i=lo+(hi-lo) / 2
       ·rw [e] at hb2;exact hb hb2
       ·exact hb (mono _ i (by omega) hi3 hb2)
      ·show lo+(hi-lo) / 2<=lo+k;omega
   ·rintro ⟨b1,lo,hi⟩ st' ⟨rfl,rfl,h1,h2,h3,h4,h5⟩
    dsimp only at h1 h2 h3 h4 h5
    exact ⟨rfl,rfl,rfl,(by show lo=hi;omega),h2,h3,h4⟩
   ·rintro ⟨b1,lo,hi⟩ st' s' ⟨hs,hst,hb1,h1,h2,h3,h4⟩
    dsimp only at hb1 h1 h2 h3 h4 ⊢
    subst hb1
    rw [hs,hst]
    subst h1
    exact kasC_pure (h lo h2 h3 fun i hi1 hi2=>not_B i hi2 (h4 i hi1 hi2))
 ·rw [if_neg (by rw [decide_eq_true_iff,←hBi];exact hb0)]
  refine kasC_bind (za7 (zcx (s:=s) (fun k (b:Option (Option Nat) × Nat × Nat) st'=>st' = st/\b.1=none/\b.2.1<b.2.2/\b.2.1<=hint/\¬B (hint-b.2.1)/\n+1<=b.2.2+k) (Q:=fun (b:Option (Option Nat) × Nat × Nat) st' s'=>s' = s/\st' = st/\b.1=none/\b.2.1<b.2.2/\b.2.1<=hint/\¬B (hint-b.2.1)/\(hint+1<=b.2.2∨(b.2.2<=hint/\B (hint-b.2.2)))) ?_ ?_ (n:=n) (b:=(none,0,1)) (st:=st) ⟨rfl,rfl,Nat.zero_lt_one,Nat.zero_le _,hb0,by show n+1<=1+n;omega⟩) ?_)
  ·rintro k x ⟨b1,la,of⟩ st' ⟨rfl,rfl,h1,h2,h3,h4⟩
   dsimp only at h1 h2 h3 h4 ⊢
   refine za6 (fun hge=>?_) (fun hge=>?_)
   ·exact kasC_pure ⟨rfl,rfl,rfl,rfl,h1,h2,h3,.inl hge⟩
   ·have hm:hint-of<n:=by omega
    refine kasC_bind (zh5 hc sg hk hm (hne _ hm) hκ ?_)
    dsimp only
    by_cases hb:B (hint-of)
    ·rw [decide_eq_true (by rw [←hBi];exact hb),if_pos rfl]
     exact kasC_pure ⟨rfl,rfl,rfl,rfl,h1,h2,h3,.inr ⟨by show of<=hint;omega,hb⟩⟩
    ·rw [decide_eq_false (by rw [←hBi];exact hb),if_neg (by simp)]
     exact kasC_pure ⟨rfl,rfl,rfl,(by show of<2*of+1;omega),(by show of<=hint;omega),hb,(by show n+1<=2*of+1+k;omega)⟩
  ·rintro ⟨b1,la,of⟩ st' ⟨rfl,rfl,h1,h2,h3,h4⟩
   dsimp only at h1 h2 h3 h4
   exact ⟨rfl,rfl,rfl,h1,h2,h3,.inl (by show hint+1<=of;omega)⟩
  ·rintro ⟨b1,la,of⟩ st' s' ⟨hs,hst,hb1,h1,h2,h3,h4⟩
   dsimp only at hb1 h1 h2 h3 h4 ⊢
   subst hb1
   rw [hs,hst]
   have l1:hint+1-min of (hint+1)<=hint-la:=by omega
   have l2:hint-la<=n:=by omega
   have l3:∀i,i<hint+1-min of (hint+1)->B i:=fun i hi=>by
    rcases h4 with z|⟨z1,z2⟩
    ·omega
    ·by_cases e:i=hint-of
     ·rw [e];exact z2
     ·exact mono i _ (by omega) (by omega) z2
   have l4:∀i,hint-la<=i->i<n->¬B i:=fun i hi1 hi2 hb=>by
    by_cases e:i=hint-la
    ·rw [e] at hb;exact h3 hb
    ·exact h3 (mono _ i (by omega) hi2 hb)
   refine kasC_bind (za7 (zcx (s:=s) (fun k (b:Option (Option Nat) × Nat × Nat) st'=>st' = st/\b.1=none/\b.2.1<=b.2.2/\b.2.2<=n/\(∀i,i<b.2.1->B i)/\(∀i,b.2.2<=i->i<n->¬B i)/\b.2.2<=b.2.1+k) (Q:=fun (b:Option (Option Nat) × Nat × Nat) st' s'=>s' = s/\st' = st/\b.1=none/\b.2.1=b.2.2/\b.2.2<=n/\(∀i,i<b.2.1->B i)/\(∀i,b.2.2<=i->i<n->¬B i)) ?_ ?_ ⟨rfl,rfl,l1,l2,l3,l4,Nat.le_trans l2 (Nat.le_add_left _ _)⟩) ?_)
   ·rintro k x ⟨b1,lo,hi⟩ st' ⟨rfl,rfl,h1,h2,h3,h4,h5⟩
    dsimp only at h1 h2 h3 h4 h5 ⊢
    refine za6 (fun hge=>?_) (fun hge=>?_)
    ·exact kasC_pure ⟨rfl,rfl,rfl,rfl,(by show lo=hi;omega),h2,h3,h4⟩
    ·have hm:lo+(hi-lo) / 2<n:=by omega
     refine kasC_bind (zh5 hc sg hk hm (hne _ hm) hκ ?_)
     dsimp only
     by_cases hb:B (lo+(hi-lo) / 2)
     ·rw [if_pos (decide_eq_true (by rw [←hBi];exact hb))]
      refine kasC_pure ⟨rfl,rfl,rfl,?_,h2,fun i hi2=>?_,h4,?_⟩
      ·show lo+(hi-lo) / 2+1<=hi;omega
      ·have hi2:i<lo+(hi-lo) / 2+1:=hi2
       by_cases e:i=lo+(hi-lo) / 2
       ·rw [e];exact hb
       ·exact mono i _ (by omega) hm hb
      ·show hi<=lo+(hi-lo) / 2+1+k;omega
     ·rw [if_neg (by rw [decide_eq_true_iff,←hBi];exact hb)]
      refine kasC_pure ⟨rfl,rfl,rfl,?_,?_,h3,fun i hi2 hi3 hb2=>?_,?_⟩
      ·show lo<=lo+(hi-lo) / 2;omega
      ·show lo+(hi-lo) / 2<=n;omega
      ·have hi2:lo+(hi-lo) / 2<=i:=hi2
       by_cases e:i=lo+(hi-lo) / 2
       ·rw [e] at hb2;exact hb hb2
       ·exact hb (mono _ i (by omega) hi3 hb2)
      ·show lo+(hi-lo) / 2<=lo+k;omega
   ·rintro ⟨b1,lo,hi⟩ st' ⟨rfl,rfl,h1,h2,h3,h4,h5⟩
    dsimp only at h1 h2 h3 h4 h5
    exact ⟨rfl,rfl,rfl,(by show lo=hi;omega),h2,h3,h4⟩
   ·rintro ⟨b1,lo,hi⟩ st' s' ⟨hs,hst,hb1,h1,h2,h3,h4⟩
    dsimp only at hb1 h1 h2 h3 h4 ⊢
    subst hb1
    rw [hs,hst]
    subst h1
    exact kasC_pure (h lo h2 h3 fun i hi1 hi2=>not_B i hi2 (h4 i hi1 hi2))
end
noncomputable def Ri (r:Nat->Int) (l:List Nat):Prop:=l.Pairwise fun a b=>r a<r b
structure Mg (r:Nat->Int) (la lb po:List Nat) (ia ib:Nat):Prop where
 up:Ri r po
 xa:∀o∈po,∀z∈la.drop ia,r o<r z
 xb:∀o∈po,∀z∈lb.drop ib,r o<r z
 pm:po.Perm (la.take ia++lb.take ib)
structure Rs (r:Nat->Int) (la lb pm:List Nat):Prop where
 up:Ri r pm
 pm:pm.Perm (la++lb)
section
variable {r:Nat->Int}{la lb po:List Nat}{ia ib:Nat}
theorem Ri.drop {l:List Nat}(h:Ri r l) (i:Nat):Ri r (l.drop i):=List.Pairwise.sublist (List.drop_sublist i l) h
theorem zgf {l:List Nat}{i:Nat}(h:i<l.length):l.drop i=l[i] :: l.drop (i+1):=List.drop_eq_getElem_cons h
theorem zku {l:List Nat}{i:Nat}(h:i<l.length):l.take (i+1)=l.take i++[l[i]]:=by rw [List.take_succ_eq_append_getElem h]
theorem Ri.snoc {l:List Nat}{x:Nat}(h:Ri r l) (hx:∀o∈l,r o<r x):Ri r (l++[x]):=by
 unfold Ri at h ⊢
 rw [List.pairwise_append]
 exact ⟨h,by simp,fun a ha b hb=>by rw [List.mem_singleton.mp hb];exact hx a ha⟩
theorem Mg.pushA (m:Mg r la lb po ia ib) (ra:Ri r la) (hi:ia<la.length) (hl:∀z∈lb.drop ib,r la[ia]<r z):Mg r la lb (po++[la[ia]]) (ia+1) ib:=by
 have e:=zgf hi
 have ha:∀z∈la.drop (ia+1),r la[ia]<r z:=by
  have:=ra.drop ia
  unfold Ri at this
  rw [e,List.pairwise_cons] at this
  exact this.1
 refine ⟨m.up.snoc fun o ho=>m.xa o ho _ (by rw [e];exact List.mem_cons_self),fun o ho z hz=>?_,fun o ho z hz=>?_,?_⟩
 ·rcases List.mem_append.mp ho with y|y
  ·exact m.xa o y z (by rw [e];exact List.mem_cons_of_mem _ hz)
  ·rw [List.mem_singleton.mp y];exact ha z hz
 ·rcases List.mem_append.mp ho with y|y
  ·exact m.xb o y z hz
  ·rw [List.mem_singleton.mp y];exact hl z hz
 ·rw [zku hi]
  refine (m.pm.append_right [la[ia]]).trans ?_
  rw [qaa,qaa]
  exact List.Perm.append_left _ List.perm_append_comm
theorem Mg.pushB (m:Mg r la lb po ia ib) (rb:Ri r lb) (hi:ib<lb.length) (hl:∀z∈la.drop ia,r lb[ib]<r z):Mg r la lb (po++[lb[ib]]) ia (ib+1):=by
 have e:=zgf hi
 have ha:∀z∈lb.drop (ib+1),r lb[ib]<r z:=by
  have:=rb.drop ib
  unfold Ri at this
  rw [e,List.pairwise_cons] at this
  exact this.1
 refine ⟨m.up.snoc fun o ho=>m.xb o ho _ (by rw [e];exact List.mem_cons_self),fun o ho z hz=>?_,fun o ho z hz=>?_,?_⟩
 ·rcases List.mem_append.mp ho with y|y
  ·exact m.xa o y z hz
  ·rw [List.mem_singleton.mp y];exact hl z hz
 ·rcases List.mem_append.mp ho with y|y
  ·exact m.xb o y z (by rw [e];exact List.mem_cons_of_mem _ hz)
  ·rw [List.mem_singleton.mp y];exact ha z hz
 ·rw [zku hi,←qaa]
  exact m.pm.append_right _
theorem behind {l:List Nat}{i:Nat}{x:Int}(h:Ri r l) (hi:i<l.length) (hx:x<r l[i]):∀z∈l.drop i,x<r z:=fun z hz=>by
 have:=h.drop i
 unfold Ri at this
 rw [zgf hi,List.pairwise_cons] at this
 rw [zgf hi] at hz
 rcases List.mem_cons.mp hz with rfl|hz
 ·exact hx
 ·exact Int.lt_trans hx (this.1 z hz)
theorem Mg.manyA (ra:Ri r la) (rb:Ri r lb) (hb:ib<lb.length):∀(k:Nat) {po:List Nat}{ia:Nat},Mg r la lb po ia ib->ia+k<=la.length->(∀i (hi:i<la.length),ia<=i->i<ia+k->r la[i]<r lb[ib])->Mg r la lb (po++(la.drop ia).take k) (ia+k) ib
 | 0,po,ia,m,_,_=>by simpa using m
 | k+1,po,ia,m,hk,hl=>by
  have hi:ia<la.length:=by omega
  have m1:=m.pushA ra hi (behind rb hb (hl ia hi (qlr _) (by omega)))
  have m2:=Mg.manyA ra rb hb k m1 (by omega) fun i hi2 h1 h2=>hl i hi2 (by omega) (by omega)
  rw [zgf hi,List.take_succ_cons]
  rw [show ia+(k+1)=ia+1+k by omega]
  rw [qaa] at m2
  exact m2
theorem Mg.manyB (ra:Ri r la) (rb:Ri r lb) (ha:ia<la.length):∀(k:Nat) {po:List Nat}{ib:Nat},Mg r la lb po ia ib->ib+k<=lb.length->(∀i (hi:i<lb.length),ib<=i->i<ib+k->r lb[i]<r la[ia])->Mg r la lb (po++(lb.drop ib).take k) ia (ib+k)
 | 0,po,ib,m,_,_=>by simpa using m
 | k+1,po,ib,m,hk,hl=>by
  have hi:ib<lb.length:=by omega
  have m1:=m.pushB rb hi (behind ra ha (hl ib hi (qlr _) (by omega)))
  have m2:=Mg.manyB ra rb ha k m1 (by omega) fun i hi2 h1 h2=>hl i hi2 (by omega) (by omega)
  rw [zgf hi,List.take_succ_cons]
  rw [show ib+(k+1)=ib+1+k by omega]
  rw [qaa] at m2
  exact m2
theorem Ri.app {x y:List Nat}(h1:Ri r x) (h2:Ri r y) (h:∀a∈x,∀b∈y,r a<r b):Ri r (x++y):=by
 unfold Ri at h1 h2 ⊢
 rw [List.pairwise_append]
 exact ⟨h1,h2,h⟩
theorem Mg.doneB (m:Mg r la lb po ia ib) (ra:Ri r la) (h:lb.length<=ib):Rs r la lb (po++la.drop ia++lb.drop ib):=by
 have e:lb.drop ib=[]:=List.drop_eq_nil_of_le h
 have e2:lb.take ib=lb:=List.take_of_length_le h
 have pm:=m.pm
 rw [e2] at pm
 rw [e,List.append_nil]
 refine ⟨m.up.app (ra.drop ia) m.xa,?_⟩
 refine (pm.append_right _).trans ?_
 rw [qaa]
 refine (List.Perm.append_left _ List.perm_append_comm).trans ?_
 rw [←qaa,List.take_append_drop]
theorem Mg.lastA (m:Mg r la lb po ia ib) (ra:Ri r la) (rb:Ri r lb) (h:∀a∈la.drop ia,∀b∈lb.drop ib,r b<r a):Rs r la lb (po++lb.drop ib++la.drop ia):=by
 refine ⟨(m.up.app (rb.drop ib) m.xb).app (ra.drop ia) fun x hx y hy=>?_,?_⟩
 ·rcases List.mem_append.mp hx with z|z
  ·exact m.xa x z y hy
  ·exact h y hy x z
 ·refine ((m.pm.append_right _).append_right _).trans ?_
  rw [qaa,qaa]
  have e1:(lb.take ib++(lb.drop ib++la.drop ia))=lb++la.drop ia:=by rw [←qaa,List.take_append_drop]
  rw [e1]
  refine (List.Perm.append_left _ List.perm_append_comm).trans ?_
  rw [←qaa,List.take_append_drop]
end
noncomputable def zh6:Nat->StateT SortSt Sem Unit:=sortPriv% PySem.Builtin.setMinGallop
noncomputable def zkv:Array Keyed->Array Keyed->StateT SortSt Sem (Array Keyed):=sortPriv% PySem.Builtin.mergeLo
noncomputable def zi5 (st:SortSt) (g:Nat):SortSt:=SortSt.mk' (kindOf st) (arrOf st) (pendingOf st) g (failedOf st)
theorem zi6 (g:Nat):zh6 g=modify fun st=>zi5 st g:=rfl
section
variable {it:Array Keyed}
noncomputable def oA (it:Array Keyed) (l:List Nat):Array Keyed:=(l.map (kas_item it)).toArray
theorem oA_map (l:List Nat):l.toArray.map (kas_item it)=oA it l:=by unfold oA;simp
theorem zgg (l:List Nat):(oA it l).size=l.length:=by unfold oA;simp
theorem zfu (l:List Nat) (x:Nat):(oA it l).push (kas_item it x)=oA it (l++[x]):=by unfold oA;simp
theorem za3 (l m:List Nat):oA it l++oA it m=oA it (l++m):=by unfold oA;simp
theorem zh7 (l:List Nat) (i j:Nat):(oA it l).extract i j=oA it ((l.drop i).take (j-i)):=by
 unfold oA
 simp [List.extract_eq_drop_take,List.map_drop,List.map_take]
theorem zce (l:List Nat) (i:Nat):(oA it l).extract i l.length=oA it (l.drop i):=by
 rw [zh7,List.take_of_length_le (by rw [List.length_drop];exact qlr _)]
theorem zkw (l:List Nat) (i k:Nat):(oA it l).extract i (i+k)=oA it ((l.drop i).take k):=by
 rw [zh7,Nat.add_sub_cancel_left]
end
noncomputable def Ks (st st':SortSt):Prop:=kindOf st' = kindOf st/\arrOf st' = arrOf st/\pendingOf st' = pendingOf st/\failedOf st' = failedOf st
theorem Ks.refl (st:SortSt):Ks st st:=⟨rfl,rfl,rfl,rfl⟩
theorem Ks.set (st:SortSt) (g:Nat):Ks st (zi5 st g):=⟨rfl,rfl,rfl,rfl⟩
theorem Ks.trans {a b c:SortSt}(h:Ks a b) (k:Ks b c):Ks a c:=⟨k.1.trans h.1,k.2.1.trans h.2.1,k.2.2.1.trans h.2.2.1,k.2.2.2.trans h.2.2.2⟩
structure Two (N:Nat) (r:Nat->Int) (la lb:List Nat):Prop where
 ra:Ri r la
 rb:Ri r lb
 na:∀x∈la,x<N
 nb:∀x∈lb,x<N
 ne:∀x∈la,∀y∈lb,r x≠r y
 a1:1<=la.length
 b1:1<=lb.length
 hd:∀x∈la,r (lb.getD 0 0)<r x
 tl:∀y∈lb,r y<r (la.getD (la.length-1) 0)
section
variable {prog:Program}{w:World}{A:Around}{E:Value->Shared->Prop}{κ:SortKind}{it:Array Keyed}{N:Nat}{r:Nat->Int}{s:Shared}{la lb:List Nat}
theorem zb0 {l:List Nat}{i:Nat}(hi:i<l.length) {st:SortSt}{Q:Keyed->SortSt->Shared->Prop}(h:Q (kas_item it l[i]) st s):kasC (model prog w) A E (elem' (oA it l) i) Q st s:=by
 rw [←oA_map]
 refine zi4 (q:=l.toArray) (by simpa using hi) ?_
 have e:l.toArray.getD i 0=l[i]:=by simp [hi]
 rw [e];exact h
theorem Ri.get {l:List Nat}(h:Ri r l) {i j:Nat}(hij:i<j) (hj:j<l.length):r l[i]<r l[j]:=(List.pairwise_iff_getElem.mp h) i j (by omega) hj hij
theorem at_list {l:List Nat}{i:Nat}(hi:i<l.length):SP.at' r l.toArray i=r l[i]:=by
 unfold SP.at'
 have e:l.toArray.getD i 0=l[i]:=by simp [hi]
 rw [e]
theorem znk (hc:Asks prog w A κ it N r s) {l:List Nat}{i key:Nat}{left:Bool}(rl:Ri r l) (nl:∀x∈l,x<N) (hk:key<N) (hi:i<l.length) (hne:∀x∈l,r x≠r key) {st:SortSt}(hκ:kindOf st=κ) {Q:Option Nat->SortSt->Shared->Prop}
  (h:∀k,i+k<=l.length->(∀j (hj:j<l.length),i<=j->j<i+k->r l[j]<r key)->(∀j (hj:j<l.length),i+k<=j->r key<r l[j])->Q (some k) st s):kasC (model prog w) A E (zdm left (kas_item it key) (oA it l) i (l.length-i) 0) Q st s:=by
 rw [←oA_map]
 refine zkt hc (q:=l.toArray) (base:=i) (n:=l.length-i) (hint:=0) ⟨by simp;omega,fun j hj=>?_,fun j1 j2 h1 h2=>?_⟩ hk (by omega) (fun j hj=>?_) hκ fun k hk1 hk2 hk3=>?_
 ·have hj:j<l.length:=by simpa using hj
  have e:l.toArray.getD j 0=l[j]:=by simp [hj]
  rw [e];exact nl _ (qem hj)
 ·rw [at_list (by omega),at_list (by omega)]
  exact rl.get (by omega) (by omega)
 ·rw [at_list (by omega)]
  exact hne _ (qem _)
 ·refine h k (by omega) (fun j hj h1 h2=>?_) fun j hj h1=>?_
  ·have:=hk2 (j-i) (by omega)
   rw [show i+(j-i)=j by omega,at_list hj] at this
   exact this
  ·have:=hk3 (j-i) (by omega) (by omega)
   rw [show i+(j-i)=j by omega,at_list hj] at this
   exact this
end
noncomputable abbrev S2:=Option (Array Keyed) × Array Keyed × Nat × Nat × Nat × Nat × Nat
noncomputable def gC (a b:Array Keyed) (na nb:Nat) (out:Array Keyed) (ia ib mg ac bc:Nat):StateT SortSt Sem (ForInStep S2):=do
 let x ←elem' a ia
 if (ia+1+1 == na)=true then pure (ForInStep.done (some (out.push x++b.extract ib nb++a.extract (ia+1) na),out.push x,ia+1,ib,mg,ac,bc))
 else if (decide (ac<7) && decide (bc<7))=true then pure (ForInStep.done (none,out.push x,ia+1,ib,mg,ac,bc))
 else pure (ForInStep.yield (none,out.push x,ia+1,ib,mg,ac,bc))
noncomputable def gB (a b:Array Keyed) (na nb:Nat) (out:Array Keyed) (ia ib mg ac bc:Nat):StateT SortSt Sem (ForInStep S2):=do
 let x ←elem' b ib
 if (ib+1 == nb)=true then pure (ForInStep.done (some (out.push x++a.extract ia na++b.extract (ib+1) nb),out.push x,ia,ib+1,mg,ac,bc))
 else do
  let y ←elem' a ia
  let z ←zdm true y b (ib+1) (nb-(ib+1)) 0
  match z with
  | some k =>
   if k > 0 then
    if (ib+1+k == nb)=true then pure (ForInStep.done (some (out.push x++b.extract (ib+1) (ib+1+k)++a.extract ia na++b.extract (ib+1+k) nb),out.push x++b.extract (ib+1) (ib+1+k),ia,ib+1+k,mg,ac,k))
    else gC a b na nb (out.push x++b.extract (ib+1) (ib+1+k)) ia (ib+1+k) mg ac k
   else gC a b na nb (out.push x) ia (ib+1) mg ac k
  | _=>pure (ForInStep.done (some (out.push x++a.extract ia na++b.extract (ib+1) nb),out.push x,ia,ib+1,mg,ac,bc))
noncomputable def gA (a b:Array Keyed) (na nb:Nat) (out:Array Keyed) (ia ib mg ac bc:Nat):StateT SortSt Sem (ForInStep S2):=do
 zh6 mg
 let y ←elem' b ib
 let z ←zdm false y a ia (na-ia) 0
 match z with
 | some k =>
  if k > 0 then
   if (ia+k+1 == na)=true then pure (ForInStep.done (some (out++a.extract ia (ia+k)++b.extract ib nb++a.extract (ia+k) na),out++a.extract ia (ia+k),ia+k,ib,mg,k,bc))
   else if (ia+k == na)=true then pure (ForInStep.done (some (out++a.extract ia (ia+k)++a.extract (ia+k) na++b.extract ib nb),out++a.extract ia (ia+k),ia+k,ib,mg,k,bc))
   else gB a b na nb (out++a.extract ia (ia+k)) (ia+k) ib mg k bc
  else gB a b na nb out ia ib mg k bc
 | _=>pure (ForInStep.done (some (out++a.extract ia na++b.extract ib nb),out,ia,ib,mg,ac,bc))
section
variable {prog:Program}{w:World}{A:Around}{E:Value->Shared->Prop}{κ:SortKind}{it:Array Keyed}{N:Nat}{r:Nat->Int}{s:Shared}{la lb:List Nat}
inductive Liv (it:Array Keyed) (r:Nat->Int) (la lb:List Nat) (start:Nat) (out:Array Keyed) (ia ib:Nat):Prop
 | mk (po:List Nat) (e:out=oA it po) (m:Mg r la lb po ia ib) (ha:ia+1<la.length) (hb:ib<lb.length) (hs:start<=ia+ib)
inductive Fin (it:Array Keyed) (r:Nat->Int) (la lb:List Nat) (o:Option (Array Keyed)):Prop
 | mk (pm:List Nat) (e:o=some (oA it pm)) (h:Rs r la lb pm)
noncomputable def Q2 (it:Array Keyed) (r:Nat->Int) (la lb:List Nat) (start:Nat) (st0:SortSt) (b:S2) (st':SortSt):Prop:=Ks st0 st'/\((b.1=none/\Liv it r la lb start b.2.1 b.2.2.1 b.2.2.2.1)∨Fin it r la lb b.1)
noncomputable def R2 (it:Array Keyed) (r:Nat->Int) (la lb:List Nat) (start:Nat) (st0:SortSt) (s:Shared) (x:ForInStep S2) (st':SortSt) (s':Shared):Prop:=s' = s/\match x with
 | .done b=>Q2 it r la lb start st0 b st'
 | .yield b=>Ks st0 st'/\b.1=none/\Liv it r la lb start b.2.1 b.2.2.1 b.2.2.2.1
theorem zi7 (t:Two N r la lb) {ia ib:Nat}(h:ia+1=la.length):∀a∈la.drop ia,∀b∈lb.drop ib,r b<r a:=fun a ha b hb=>by
 have h1:=t.tl b (List.mem_of_mem_drop hb)
 have e:la.getD (la.length-1) 0=la[ia]'(by omega):=by
  rw [List.getD_eq_getElem?_getD,show la.length-1=ia by omega,qge (by omega)];rfl
 rw [e] at h1
 rw [zgf (by omega),List.drop_eq_nil_of_le (by omega)] at ha
 rw [List.mem_singleton.mp ha];exact h1
theorem znl (t:Two N r la lb) {po:List Nat}{ia ib mg ac bc start:Nat}{st0 st:SortSt}(hk:Ks st0 st) (m:Mg r la lb po ia ib) (ha:ia+1<la.length) (hb:ib<lb.length) (hl:r (la[ia]'(by omega))<r lb[ib]) (hs:start<=ia+ib) :
  kasC (model prog w) A E (gC (oA it la) (oA it lb) la.length lb.length (oA it po) ia ib mg ac bc) (R2 it r la lb start st0 s) st s:=by
 unfold gC
 refine kasC_bind (zb0 (by omega) ?_)
 have m1:=m.pushA t.ra (by omega) (behind t.rb hb hl)
 rw [zfu]
 refine za6 (fun e1=>?_) (fun e1=>?_)
 ·have e1:ia+1+1=la.length:=by simpa using e1
  refine kasC_pure ⟨rfl,hk,.inr ⟨_,?_,m1.lastA t.ra t.rb (zi7 t e1)⟩⟩
  show some _=some _
  rw [zce,zce,za3,za3]
 ·have e1:¬ia+1+1=la.length:=by simpa using e1
  refine za6 (fun e2=>?_) (fun e2=>?_)
  ·exact kasC_pure ⟨rfl,hk,.inl ⟨rfl,_,rfl,m1,by show ia+1+1<_;omega,hb,by show start<=ia+1+ib;omega⟩⟩
  ·exact kasC_pure ⟨rfl,hk,rfl,_,rfl,m1,by show ia+1+1<_;omega,hb,by show start<=ia+1+ib;omega⟩
theorem znm (hc:Asks prog w A κ it N r s) (t:Two N r la lb) {po:List Nat}{ia ib mg ac bc start:Nat}{st0 st:SortSt}(hk:Ks st0 st) (hκ:kindOf st=κ) (m:Mg r la lb po ia ib) (ha:ia+1<la.length) (hb:ib<lb.length) (hl:r lb[ib]<r (la[ia]'(by omega))) (hs:start<=ia+ib) :
  kasC (model prog w) A E (gB (oA it la) (oA it lb) la.length lb.length (oA it po) ia ib mg ac bc) (R2 it r la lb start st0 s) st s:=by
 unfold gB
 refine kasC_bind (zb0 hb ?_)
 have m1:=m.pushB t.rb hb (behind t.ra (by omega) hl)
 rw [zfu]
 refine za6 (fun e1=>?_) (fun e1=>?_)
 ·have e1:ib+1=lb.length:=by simpa using e1
  refine kasC_pure ⟨rfl,hk,.inr ⟨_,?_,m1.doneB t.ra (by omega)⟩⟩
  show some _=some _
  rw [zce,zce,za3,za3]
 ·have e1:¬ib+1=lb.length:=by simpa using e1
  refine kasC_bind (zb0 (by omega) ?_)
  refine kasC_bind (znk hc t.rb t.nb (t.na _ (qem _)) (by omega) (fun x hx=>Ne.symm (t.ne _ (qem _) x hx)) hκ fun k k1 k2 k3=>?_)
  dsimp only
  have m2:=Mg.manyB t.ra t.rb (by omega) k m1 k1 k2
  by_cases e2:k > 0
  ·rw [if_pos e2,zkw,za3]
   refine za6 (fun e3=>?_) (fun e3=>?_)
   ·have e3:ib+1+k=lb.length:=by simpa using e3
    refine kasC_pure ⟨rfl,hk,.inr ⟨_,?_,m2.doneB t.ra (by omega)⟩⟩
    show some _=some _
    rw [zce,zce,za3,za3]
   ·have e3:¬ib+1+k=lb.length:=by simpa using e3
    exact znl t hk m2 ha (by omega) (k3 (ib+1+k) (by omega) (qlr _)) (by omega)
  ·rw [if_neg e2]
   have e2:k=0:=by omega
   subst e2
   exact znl t hk m1 ha (by omega) (k3 (ib+1) (by omega) (by omega)) (by omega)
theorem znn (hc:Asks prog w A κ it N r s) (t:Two N r la lb) {po:List Nat}{ia ib mg ac bc start:Nat}{st0 st:SortSt}(hk:Ks st0 st) (hκ:kindOf st=κ) (m:Mg r la lb po ia ib) (ha:ia+1<la.length) (hb:ib<lb.length) (hs:start<=ia+ib) :
  kasC (model prog w) A E (gA (oA it la) (oA it lb) la.length lb.length (oA it po) ia ib mg ac bc) (R2 it r la lb start st0 s) st s:=by
 unfold gA
 rw [zi6]
 refine kasC_bind (kasC_modify ?_)
 have hk2:=hk.trans (Ks.set st mg)
 have hκ2:kindOf (zi5 st mg)=κ:=hκ
 refine kasC_bind (zb0 hb ?_)
 refine kasC_bind (znk hc t.ra t.na (t.nb _ (qem _)) (by omega) (fun x hx=>t.ne x hx _ (qem _)) hκ2 fun k k1 k2 k3=>?_)
 dsimp only
 have m2:=Mg.manyA t.ra t.rb hb k m k1 k2
 have hlast:ia+k≠la.length:=fun e=>by
  have h1:=t.tl lb[ib] (qem _)
  have e2:la.getD (la.length-1) 0=la[la.length-1]'(by omega):=by
   rw [List.getD_eq_getElem?_getD,qge (by omega)];rfl
  rw [e2] at h1
  have h2:=k2 (la.length-1) (by omega) (by omega) (by omega)
  omega
 by_cases e2:k > 0
 ·rw [if_pos e2,zkw,za3]
  refine za6 (fun e3=>?_) (fun e3=>?_)
  ·have e3:ia+k+1=la.length:=by simpa using e3
   refine kasC_pure ⟨rfl,hk2,.inr ⟨_,?_,m2.lastA t.ra t.rb (zi7 t e3)⟩⟩
   show some _=some _
   rw [zce,zce,za3,za3]
  ·have e3:¬ia+k+1=la.length:=by simpa using e3
   rw [if_neg (by simpa using hlast)]
   exact znm hc t hk2 hκ2 m2 (by omega) hb (k3 (ia+k) (by omega) (qlr _)) (by omega)
 ·rw [if_neg e2]
  have e2:k=0:=by omega
  subst e2
  exact znm hc t hk2 hκ2 m ha hb (k3 ia (by omega) (by omega)) hs
end
noncomputable abbrev S1:=Option (Array Keyed) × Array Keyed × Nat × Nat × Nat × Nat
noncomputable abbrev S0:=Option (Array Keyed) × Array Keyed × Nat × Nat × Nat
noncomputable def sA (a b:Array Keyed) (na nb mg:Nat) (out:Array Keyed) (ia ib ac bc:Nat):StateT SortSt Sem (ForInStep S1):=do
 let x ←elem' b ib
 let y ←elem' a ia
 let o ←lt' x y
 match o with
 | some w =>
  if w=true then do
   let z ←elem' b ib
   if (ib+1 == nb)=true then pure (ForInStep.done (some (out.push z++a.extract ia na++b.extract (ib+1) nb),out.push z,ia,ib+1,0,bc+1))
   else if bc+1 ≥ mg then pure (ForInStep.done (none,out.push z,ia,ib+1,0,bc+1))
   else pure (ForInStep.yield (none,out.push z,ia,ib+1,0,bc+1))
  else do
   let z ←elem' a ia
   if (ia+1+1 == na)=true then pure (ForInStep.done (some (out.push z++b.extract ib nb++a.extract (ia+1) na),out.push z,ia+1,ib,ac+1,0))
   else if ac+1 ≥ mg then pure (ForInStep.done (none,out.push z,ia+1,ib,ac+1,0))
   else pure (ForInStep.yield (none,out.push z,ia+1,ib,ac+1,0))
 | _=>pure (ForInStep.done (some (out++a.extract ia na++b.extract ib nb),out,ia,ib,ac,bc))
noncomputable def sG (a b:Array Keyed) (p:S2):StateT SortSt Sem (ForInStep S2) :=
 if p.2.2.2.2.1 > 1 then gA a b a.size b.size p.2.1 p.2.2.1 p.2.2.2.1 (p.2.2.2.2.1-1) p.2.2.2.2.2.1 p.2.2.2.2.2.2
 else gA a b a.size b.size p.2.1 p.2.2.1 p.2.2.2.1 p.2.2.2.2.1 p.2.2.2.2.2.1 p.2.2.2.2.2.2
noncomputable def sO (a b:Array Keyed) (r:S0):StateT SortSt Sem (ForInStep S0):=do
 let q ←forIn [0:a.size+b.size] ((none,r.2.1,r.2.2.1,r.2.2.2.1,0,0):S1) (fun _ q=>sA a b a.size b.size r.2.2.2.2 q.2.1 q.2.2.1 q.2.2.2.1 q.2.2.2.2.1 q.2.2.2.2.2)
 match q.1 with
 | some x=>pure (ForInStep.done (some x,q.2.1,q.2.2.1,q.2.2.2.1,r.2.2.2.2))
 | none=>do
  rule "list.sort.gallop"
  let p ←forIn [0:a.size+b.size] ((none,q.2.1,q.2.2.1,q.2.2.2.1,r.2.2.2.2+1,q.2.2.2.2.1,q.2.2.2.2.2):S2) (fun _ p=>sG a b p)
  match p.1 with
  | some x=>pure (ForInStep.done (some x,p.2.1,p.2.2.1,p.2.2.2.1,p.2.2.2.2.1))
  | none=>do
   zh6 (p.2.2.2.2.1+1)
   pure (ForInStep.yield (none,p.2.1,p.2.2.1,p.2.2.2.1,p.2.2.2.2.1+1))
theorem zts (a b:Array Keyed):zkv a b=(do
 rule "list.sort.merge-lo"
 let x ←elem' b 0
 if (1 == b.size)=true then pure (#[x]++a.extract 0 a.size++b.extract 1 b.size)
 else if (0+1 == a.size)=true then pure (#[x]++b.extract 1 b.size++a.extract 0 a.size)
 else do
  let st ←get
  let r ←forIn [0:a.size+b.size] ((none,#[x],0,1,gallopOf st):S0) (fun _ r=>sO a b r)
  match r.1 with
  | some x=>pure x
  | none=>unsupported "internal:list.sort.merge-bound"):=by kernel_rfl
section
variable {prog:Program}{w:World}{A:Around}{E:Value->Shared->Prop}{κ:SortKind}{it:Array Keyed}{N:Nat}{r:Nat->Int}{s:Shared}{la lb:List Nat}
noncomputable def MgP (it:Array Keyed) (r:Nat->Int) (la lb:List Nat) (st:SortSt) (s:Shared) (x:Array Keyed) (st':SortSt) (s':Shared):Prop:=s' = s/\Ks st st'/\Fin it r la lb (some x)
noncomputable def Q1 (it:Array Keyed) (r:Nat->Int) (la lb:List Nat) (k0:Nat) (st0:SortSt) (b:S1) (st':SortSt):Prop:=st' = st0/\((b.1=none/\Liv it r la lb (k0+1) b.2.1 b.2.2.1 b.2.2.2.1)∨Fin it r la lb b.1)
noncomputable def I1 (it:Array Keyed) (r:Nat->Int) (la lb:List Nat) (k0:Nat) (st0:SortSt) (k:Nat) (b:S1) (st':SortSt):Prop:=st' = st0/\b.1=none/\Liv it r la lb k0 b.2.1 b.2.2.1 b.2.2.2.1/\k0+(la.length+lb.length)<=b.2.2.1+b.2.2.2.1+k
theorem ztt (hc:Asks prog w A κ it N r s) (t:Two N r la lb) {po:List Nat}{ia ib mg ac bc k0 k:Nat}{st:SortSt}(hκ:kindOf st=κ) (m:Mg r la lb po ia ib) (ha:ia+1<la.length) (hb:ib<lb.length) (hs:k0<=ia+ib) (hcn:k0+(la.length+lb.length)<=ia+ib+(k+1)) :
  kasC (model prog w) A E (sA (oA it la) (oA it lb) la.length lb.length mg (oA it po) ia ib ac bc) (fun x st' s'=>s' = s/\match x with | .done b=>Q1 it r la lb k0 st b st' | .yield b=>I1 it r la lb k0 st k b st') st s:=by
 unfold sA
 refine kasC_bind (zb0 hb (kasC_bind (zb0 (by omega) ?_)))
 refine kasC_bind (zh4 hc (t.nb _ (qem _)) (t.na _ (qem _)) hκ ?_)
 dsimp only
 refine za6 (fun hw=>?_) (fun hw=>?_)
 ·have hw:=of_decide_eq_true hw
  refine kasC_bind (zb0 hb ?_)
  have m1:=m.pushB t.rb hb (behind t.ra (by omega) hw)
  rw [zfu]
  refine za6 (fun e1=>?_) (fun e1=>?_)
  ·have e1:ib+1=lb.length:=by simpa using e1
   refine kasC_pure ⟨rfl,rfl,.inr ⟨_,?_,m1.doneB t.ra (by omega)⟩⟩
   show some _=some _
   rw [zce,zce,za3,za3]
  ·have e1:¬ib+1=lb.length:=by simpa using e1
   exact za6 (fun _=>kasC_pure ⟨rfl,rfl,.inl ⟨rfl,_,rfl,m1,ha,by show ib+1<_;omega,by show _<=ia+(ib+1);omega⟩⟩)
    fun _=>kasC_pure ⟨rfl,rfl,rfl,⟨_,rfl,m1,ha,by show ib+1<_;omega,by show _<=ia+(ib+1);omega⟩,by show _<=ia+(ib+1)+k;omega⟩
 ·have hw:¬r lb[ib]<r (la[ia]'(by omega)):=fun z=>hw (decide_eq_true z)
  have hne:=t.ne (la[ia]'(by omega)) (qem _) lb[ib] (qem _)
  refine kasC_bind (zb0 (by omega) ?_)
  have m1:=m.pushA t.ra (by omega) (behind t.rb hb (by omega))
  rw [zfu]
  refine za6 (fun e1=>?_) (fun e1=>?_)
  ·have e1:ia+1+1=la.length:=by simpa using e1
   refine kasC_pure ⟨rfl,rfl,.inr ⟨_,?_,m1.lastA t.ra t.rb (zi7 t e1)⟩⟩
   show some _=some _
   rw [zce,zce,za3,za3]
  ·have e1:¬ia+1+1=la.length:=by simpa using e1
   exact za6 (fun _=>kasC_pure ⟨rfl,rfl,.inl ⟨rfl,_,rfl,m1,by show ia+1+1<_;omega,hb,by show _<=ia+1+ib;omega⟩⟩)
    fun _=>kasC_pure ⟨rfl,rfl,rfl,⟨_,rfl,m1,by show ia+1+1<_;omega,hb,by show _<=ia+1+ib;omega⟩,by show _<=ia+1+ib+k;omega⟩
theorem ztu (hc:Asks prog w A κ it N r s) (t:Two N r la lb) {start:Nat}{p:S2}{st0 st:SortSt}(hk:Ks st0 st) (hκ:kindOf st0=κ) (lv:Liv it r la lb start p.2.1 p.2.2.1 p.2.2.2.1) :
  kasC (model prog w) A E (sG (oA it la) (oA it lb) p) (R2 it r la lb start st0 s) st s:=by
 obtain ⟨bb,out,ia,ib,mg,ac,bc⟩:=p
 obtain ⟨po,e,m,ha,hb,hs⟩:=lv
 dsimp only at e m ha hb hs
 subst e
 unfold sG
 rw [zgg,zgg]
 have hκ2:kindOf st=κ:=hk.1.trans hκ
 exact za6 (fun _=>znn hc t hk hκ2 m ha hb hs) fun _=>znn hc t hk hκ2 m ha hb hs
noncomputable def I0 (it:Array Keyed) (r:Nat->Int) (la lb:List Nat) (st0:SortSt) (k:Nat) (b:S0) (st':SortSt):Prop:=Ks st0 st'/\b.1=none/\Liv it r la lb 0 b.2.1 b.2.2.1 b.2.2.2.1/\la.length+lb.length+1<=b.2.2.1+b.2.2.2.1+k
theorem ztv (hc:Asks prog w A κ it N r s) (t:Two N r la lb) {st0 st:SortSt}(hκ:kindOf st0=κ) {k:Nat}{b:S0}(h:I0 it r la lb st0 (k+1) b st) :
  kasC (model prog w) A E (sO (oA it la) (oA it lb) b) (fun x st' s'=>s' = s/\match x with | .done b=>s=s/\Ks st0 st'/\Fin it r la lb b.1 | .yield b=>I0 it r la lb st0 k b st') st s:=by
 obtain ⟨b0,out0,ia0,ib0,mg0⟩:=b
 obtain ⟨hks,hb0,lv0,hct⟩:=h
 dsimp only at hb0 lv0 hct
 have hκ':kindOf st=κ:=hks.1.trans hκ
 unfold sO
 rw [zgg,zgg]
 refine kasC_bind (za7 (zcx (s:=s) (I1 it r la lb (ia0+ib0) st) (Q:=fun b st' s'=>s' = s/\Q1 it r la lb (ia0+ib0) st b st') ?_ ?_ ?_) ?_)
 ·rintro k x ⟨bb,out,ia,ib,ac,bc⟩ st'' ⟨rfl,rfl,⟨po,e,m,ha,hb,hs⟩,hcn⟩
  dsimp only at e m ha hb hs hcn ⊢
  subst e
  refine za7 (ztt hc t hκ' m ha hb hs hcn) ?_
  rintro x st3 s3 ⟨h3,h4⟩
  refine ⟨h3,?_⟩
  cases x with
  | done b=>exact ⟨rfl,h4⟩
  | yield b=>exact h4
 ·rintro ⟨bb,out,ia,ib,ac,bc⟩ st'' ⟨rfl,rfl,⟨po,e,m,ha,hb,hs⟩,hcn⟩
  dsimp only at e m ha hb hs hcn
  exact ⟨rfl,rfl,.inl ⟨rfl,po,e,m,ha,hb,by show _<=ia+ib;omega⟩⟩
 ·obtain ⟨po,e,m,ha,hb,hs⟩:=lv0
  exact ⟨rfl,rfl,⟨po,e,m,ha,hb,qlr _⟩,qlr _⟩
 rintro ⟨b1,out1,ia1,ib1,ac1,bc1⟩ st1 s1 ⟨hs1,hst1,hb1⟩
 rw [hs1,hst1]
 rcases hb1 with ⟨hn,lv⟩|⟨pm,e,hr⟩
 ·dsimp only at hn lv ⊢
  subst hn
  dsimp only
  refine kasC_bind (kasC_lift (wpAny_rule ?_))
  refine kasC_bind (za7 (zcx (s:=s) (fun k (b:S2) st''=>Ks st st''/\b.1=none/\Liv it r la lb (ia0+ib0+1) b.2.1 b.2.2.1 b.2.2.2.1) (Q:=fun (b:S2) st'' s'=>s' = s/\Q2 it r la lb (ia0+ib0+1) st b st'') ?_ ?_ ⟨Ks.refl _,rfl,lv⟩) ?_)
  ·rintro k x p st'' ⟨hk2,_,lv2⟩
   refine za7 (ztu hc t hk2 hκ' lv2) ?_
   rintro x st3 s3 ⟨h3,h4⟩
   refine ⟨h3,?_⟩
   cases x with
   | done b=>exact ⟨rfl,h4⟩
   | yield b=>exact h4
  ·rintro b st'' ⟨hk2,hbn,lv2⟩
   exact ⟨rfl,hk2,.inl ⟨hbn,lv2⟩⟩
  rintro ⟨b2,out2,ia2,ib2,mg2,ac2,bc2⟩ st2 s2 ⟨hs2,hk2,hb2⟩
  rw [hs2]
  rcases hb2 with ⟨hn,⟨po,e,m,ha,hb,hs⟩⟩|⟨pm,e,hr⟩
  ·dsimp only at hn e m ha hb hs ⊢
   subst hn
   dsimp only
   rw [zi6]
   refine kasC_bind (kasC_modify (kasC_pure ⟨rfl,(hks.trans hk2).trans (Ks.set _ _),rfl,⟨po,e,m,ha,hb,Nat.zero_le _⟩,?_⟩))
   show _<=ia2+ib2+k
   omega
  ·dsimp only at e ⊢
   subst e
   exact kasC_pure ⟨rfl,rfl,hks.trans hk2,pm,rfl,hr⟩
 ·dsimp only at e ⊢
  subst e
  exact kasC_pure ⟨rfl,rfl,hks,pm,rfl,hr⟩
theorem ztw (hc:Asks prog w A κ it N r s) (t:Two N r la lb) {st:SortSt}(hκ:kindOf st=κ):kasC (model prog w) A E (zkv (oA it la) (oA it lb)) (MgP it r la lb st s) st s:=by
 have a1:=t.a1
 have b1:=t.b1
 rw [zts]
 refine kasC_bind (kasC_lift (wpAny_rule ?_))
 refine kasC_bind (zb0 b1 ?_)
 simp only [zgg]
 have m00:Mg r la lb [] 0 0:=⟨List.Pairwise.nil,fun o ho=>(by cases ho),fun o ho=>(by cases ho),by simp⟩
 have m0:Mg r la lb [lb[0]] 0 1:=by
  have:=m00.pushB t.rb (by omega) (fun z hz=>by
   have:=t.hd z (List.mem_of_mem_drop hz)
   have e:lb.getD 0 0=lb[0]'(by omega):=by rw [List.getD_eq_getElem?_getD,qge (by omega)];rfl
   rw [e] at this;exact this)
  exact this
 have e0:(#[kas_item it lb[0]]:Array Keyed)=oA it [lb[0]]:=rfl
 rw [e0]
 refine za6 (fun h1=>?_) (fun h1=>?_)
 ·have h1:1=lb.length:=by simpa using h1
  refine kasC_pure ⟨rfl,Ks.refl _,_,?_,m0.doneB t.ra (by omega)⟩
  rw [zce,zce,za3,za3]
 have h1:¬1=lb.length:=by simpa using h1
 refine za6 (fun h2=>?_) (fun h2=>?_)
 ·have h2:0+1=la.length:=by simpa using h2
  refine kasC_pure ⟨rfl,Ks.refl _,_,?_,m0.lastA t.ra t.rb (zi7 t h2)⟩
  rw [zce,zce,za3,za3]
 have h2:¬0+1=la.length:=by simpa using h2
 refine kasC_bind (kasC_get ?_)
 refine kasC_bind (za7 (zcx (s:=s) (I0 it r la lb st) (Q:=fun (b:S0) st' s'=>s' = s/\Ks st st'/\Fin it r la lb b.1) (fun k x b st' h=>za7 (ztv hc t hκ h) fun x st3 s3 h3=>by
  refine ⟨h3.1,?_⟩
  cases x <;> exact h3.2) ?_ ⟨Ks.refl _,rfl,⟨_,rfl,m0,by show 0+1<_;omega,by show 1<_;omega,Nat.zero_le _⟩,by show _<=0+1+_;omega⟩) ?_)
 ·rintro ⟨b0,out0,ia0,ib0,mg0⟩ st' ⟨hks,hbn,⟨po,e,m,ha,hb,hs⟩,hct⟩
  exfalso
  dsimp only at ha hb hct
  omega
 ·rintro ⟨b0,out0,ia0,ib0,mg0⟩ st' s' ⟨hs',hks,⟨pm,e,hr⟩⟩
  rw [hs']
  dsimp only at e ⊢
  subst e
  exact kasC_pure ⟨rfl,hks,pm,rfl,hr⟩
end
noncomputable def zkx:Array Keyed->Array Keyed->StateT SortSt Sem (Array Keyed):=sortPriv% PySem.Builtin.mergeHi
noncomputable def ng (r:Nat->Int):Nat->Int:=fun x=>-(r x)
noncomputable def Mh (r:Nat->Int) (la lb po:List Nat) (na nb:Nat):Prop:=Mg (ng r) la.reverse lb.reverse po (la.length-na) (lb.length-nb)
section
variable {r:Nat->Int}{la lb po:List Nat}{na nb:Nat}
theorem ri_rev {l:List Nat}:Ri (ng r) l.reverse↔Ri r l:=by
 unfold Ri ng
 rw [List.pairwise_reverse]
 constructor
 ·exact fun h=>h.imp fun {a b} hab=>by omega
 ·exact fun h=>h.imp fun {a b} hab=>by omega
theorem zno {l:List Nat}{n:Nat}(h1:1<=n) (h2:n<=l.length) (h:l.length-n<l.reverse.length):l.reverse[l.length-n]=l[n-1]'(by omega):=by
 rw [List.getElem_reverse]
 congr 1
 omega
theorem ztx {l:List Nat}{n:Nat}(h2:n<=l.length):l.reverse.drop (l.length-n)=(l.take n).reverse:=by
 rw [List.drop_reverse]
 congr 2
 omega
theorem zi8 {l:List Nat}{n x:Nat}(h2:n<=l.length):x∈l.reverse.drop (l.length-n)↔x∈l.take n:=by
 rw [ztx h2,List.mem_reverse]
theorem Mh.pushA (m:Mh r la lb po na nb) (ra:Ri r la) (h1:1<=na) (h2:na<=la.length) (h3:nb<=lb.length) (hl:∀z∈lb.take nb,r z<r (la[na-1]'(by omega))):Mh r la lb (po++[la[na-1]'(by omega)]) (na-1) nb:=by
 have hi:la.length-na<la.reverse.length:=by rw [List.length_reverse];omega
 have e:=zno h1 h2 hi
 have:=Mg.pushA m (ri_rev.mpr ra) hi fun z hz=>by
  rw [e]
  have:=hl z ((zi8 h3).mp hz)
  show -(r _) < -(r z)
  omega
 rw [e] at this
 unfold Mh
 rw [show la.length-(na-1)=la.length-na+1 by omega]
 exact this
theorem Mh.pushB (m:Mh r la lb po na nb) (rb:Ri r lb) (h1:1<=nb) (h2:nb<=lb.length) (h3:na<=la.length) (hl:∀z∈la.take na,r z<r (lb[nb-1]'(by omega))):Mh r la lb (po++[lb[nb-1]'(by omega)]) na (nb-1):=by
 have hi:lb.length-nb<lb.reverse.length:=by rw [List.length_reverse];omega
 have e:=zno h1 h2 hi
 have:=Mg.pushB m (ri_rev.mpr rb) hi fun z hz=>by
  rw [e]
  have:=hl z ((zi8 h3).mp hz)
  show -(r _) < -(r z)
  omega
 rw [e] at this
 unfold Mh
 rw [show lb.length-(nb-1)=lb.length-nb+1 by omega]
 exact this
theorem zg3 {l:List Nat}{n:Nat}{x:Int}(h:Ri r l) (h1:1<=n) (h2:n<=l.length) (hx:r (l[n-1]'(by omega))<x):∀z∈l.take n,r z<x:=fun z hz=>by
 obtain ⟨i,hi,rfl⟩:=List.mem_iff_getElem.mp hz
 rw [List.length_take] at hi
 rw [List.getElem_take]
 by_cases e:i=n-1
 ·subst e;exact hx
 ·exact Int.lt_trans ((List.pairwise_iff_getElem.mp h) i (n-1) (by omega) (by omega) (by omega)) hx
theorem Mh.manyA (ra:Ri r la) (rb:Ri r lb) (h1:1<=nb) (h2:nb<=lb.length):∀(k:Nat) {po:List Nat}{na:Nat},Mh r la lb po na nb->k<=na->na<=la.length->(∀i (hi:i<la.length),na-k<=i->i<na->r (lb[nb-1]'(by omega))<r la[i])->Mh r la lb (po++((la.drop (na-k)).take k).reverse) (na-k) nb
 | 0,po,na,m,_,_,_=>by simpa using m
 | k+1,po,na,m,hk,hn,hl=>by
  have m1:=m.pushA ra (by omega) hn h2 (zg3 rb h1 h2 (hl (na-1) (by omega) (by omega) (by omega)))
  have m2:=Mh.manyA ra rb h1 h2 k m1 (by omega) (by omega) fun i hi a1 a2=>hl i hi (by omega) (by omega)
  rw [show na-1-k=na-(k+1) by omega] at m2
  have e:(la.drop (na-(k+1))).take (k+1)=(la.drop (na-(k+1))).take k++[la[na-1]'(by omega)]:=by
   rw [List.take_succ_eq_append_getElem (by rw [List.length_drop];omega)]
   congr 2
   rw [List.getElem_drop]
   congr 1
   omega
  rw [e,List.reverse_append,List.reverse_singleton,←qaa]
  exact m2
theorem Mh.manyB (ra:Ri r la) (rb:Ri r lb) (h1:1<=na) (h2:na<=la.length):∀(k:Nat) {po:List Nat}{nb:Nat},Mh r la lb po na nb->k<=nb->nb<=lb.length->(∀i (hi:i<lb.length),nb-k<=i->i<nb->r (la[na-1]'(by omega))<r lb[i])->Mh r la lb (po++((lb.drop (nb-k)).take k).reverse) na (nb-k)
 | 0,po,nb,m,_,_,_=>by simpa using m
 | k+1,po,nb,m,hk,hn,hl=>by
  have m1:=m.pushB rb (by omega) hn h2 (zg3 ra h1 h2 (hl (nb-1) (by omega) (by omega) (by omega)))
  have m2:=Mh.manyB ra rb h1 h2 k m1 (by omega) (by omega) fun i hi a1 a2=>hl i hi (by omega) (by omega)
  rw [show nb-1-k=nb-(k+1) by omega] at m2
  have e:(lb.drop (nb-(k+1))).take (k+1)=(lb.drop (nb-(k+1))).take k++[lb[nb-1]'(by omega)]:=by
   rw [List.take_succ_eq_append_getElem (by rw [List.length_drop];omega)]
   congr 2
   rw [List.getElem_drop]
   congr 1
   omega
  rw [e,List.reverse_append,List.reverse_singleton,←qaa]
  exact m2
theorem Mh.firstB (m:Mh r la lb po na nb) (ra:Ri r la) (rb:Ri r lb) (h2:na<=la.length) (h3:nb<=lb.length) (h:∀a∈la.take na,∀b∈lb.take nb,r b<r a):Rs r la lb (lb.take nb++la.take na++po.reverse):=by
 have up:=m.up
 have rp:Ri r po.reverse:=by
  rw [←ri_rev,List.reverse_reverse];exact up
 have xa:∀o∈po,∀z∈la.take na,r z<r o:=fun o ho z hz=>by
  have:-(r o) < -(r z):=m.xa o ho z ((zi8 h2).mpr hz)
  omega
 have xb:∀o∈po,∀z∈lb.take nb,r z<r o:=fun o ho z hz=>by
  have:-(r o) < -(r z):=m.xb o ho z ((zi8 h3).mpr hz)
  omega
 have pm:=m.pm
 have e1:la.reverse.take (la.length-na)=(la.drop na).reverse:=by rw [List.take_reverse];congr 2;omega
 have e2:lb.reverse.take (lb.length-nb)=(lb.drop nb).reverse:=by rw [List.take_reverse];congr 2;omega
 rw [e1,e2] at pm
 have tb:Ri r (lb.take nb):=List.Pairwise.sublist (List.take_sublist nb lb) rb
 have ta:Ri r (la.take na):=List.Pairwise.sublist (List.take_sublist na la) ra
 refine ⟨Ri.app (Ri.app tb ta fun b hb a ha=>h a ha b hb) rp fun x hx o ho=>?_,?_⟩
 ·have ho:=List.mem_reverse.mp ho
  rcases List.mem_append.mp hx with z|z
  ·exact xb o ho x z
  ·exact xa o ho x z
 ·have p1:po.reverse.Perm (la.drop na++lb.drop nb):=(List.reverse_perm po).trans (pm.trans ((List.reverse_perm _).append (List.reverse_perm _)))
  refine (List.Perm.append_left _ p1).trans ?_
  have p2:(lb.take nb++la.take na).Perm (la.take na++lb.take nb):=List.perm_append_comm
  refine (p2.append_right _).trans ?_
  rw [qaa]
  have p3:(lb.take nb++(la.drop na++lb.drop nb)).Perm (la.drop na++lb):=by
   rw [←qaa]
   refine (List.perm_append_comm.append_right _).trans ?_
   rw [qaa,List.take_append_drop]
  refine (List.Perm.append_left _ p3).trans ?_
  rw [←qaa,List.take_append_drop]
theorem Mh.fin (m:Mh r la lb po na nb) (ra:Ri r la) (rb:Ri r lb) (h2:na<=la.length) (h3:nb<=lb.length) (h:na=0∨nb=0):Rs r la lb (la.take na++lb.take nb++po.reverse):=by
 have e:la.take na++lb.take nb=lb.take nb++la.take na:=by
  rcases h with rfl|rfl <;> simp
 rw [e]
 refine m.firstB ra rb h2 h3 fun a ha b hb=>?_
 rcases h with rfl|rfl
 ·simp at ha
 ·simp at hb
end
section
variable {it:Array Keyed}
theorem zes (l:List Nat):(oA it l).reverse=oA it l.reverse:=by unfold oA;simp
theorem zcf (l:List Nat) (n:Nat):(oA it l).extract 0 n=oA it (l.take n):=by rw [zh7];simp
theorem znp (l:List Nat) (i n:Nat):((oA it l).extract i n).reverse=oA it (((l.drop i).take (n-i)).reverse):=by rw [zh7,zes]
end
section
variable {prog:Program}{w:World}{A:Around}{E:Value->Shared->Prop}{κ:SortKind}{it:Array Keyed}{N:Nat}{r:Nat->Int}{s:Shared}{la lb:List Nat}
theorem znq (hc:Asks prog w A κ it N r s) {l:List Nat}{n key:Nat}{left:Bool}(rl:Ri r l) (nl:∀x∈l,x<N) (hk:key<N) (h1:1<=n) (h2:n<=l.length) (hne:∀x∈l,r x≠r key) {st:SortSt}(hκ:kindOf st=κ) {Q:Option Nat->SortSt->Shared->Prop}
  (h:∀k,k<=n->(∀j (hj:j<l.length),j<k->r l[j]<r key)->(∀j (hj:j<l.length),k<=j->j<n->r key<r l[j])->Q (some k) st s):kasC (model prog w) A E (zdm left (kas_item it key) (oA it l) 0 n (n-1)) Q st s:=by
 rw [←oA_map]
 refine zkt hc (q:=l.toArray) (base:=0) (n:=n) (hint:=n-1) ⟨by simp;omega,fun j hj=>?_,fun j1 j2 a1 a2=>?_⟩ hk (by omega) (fun j hj=>?_) hκ fun k hk1 hk2 hk3=>?_
 ·have hj:j<l.length:=by simpa using hj
  have e:l.toArray.getD j 0=l[j]:=by simp [hj]
  rw [e];exact nl _ (qem hj)
 ·rw [at_list (by omega),at_list (by omega)]
  exact rl.get (by omega) (by omega)
 ·rw [at_list (by omega)]
  exact hne _ (qem _)
 ·refine h k hk1 (fun j hj a1=>?_) fun j hj a1 a2=>?_
  ·have:=hk2 j a1
   rw [Nat.zero_add,at_list hj] at this
   exact this
  ·have:=hk3 j a1 a2
   rw [Nat.zero_add,at_list hj] at this
   exact this
end
noncomputable abbrev H2:=Option (Array Keyed) × Nat × Nat × Array Keyed × Nat × Nat × Nat
noncomputable abbrev H1:=Option (Array Keyed) × Nat × Nat × Array Keyed × Nat × Nat
noncomputable abbrev H0:=Option (Array Keyed) × Nat × Nat × Array Keyed × Nat
noncomputable def hC (a b:Array Keyed) (na nb:Nat) (out:Array Keyed) (mg ac bc:Nat):StateT SortSt Sem (ForInStep H2):=do
 let x ←elem' a (na-1)
 if (na-1 == 0)=true then pure (ForInStep.done (some (a.extract 0 (na-1)++b.extract 0 nb++(out.push x).reverse),na-1,nb,out.push x,mg,ac,bc))
 else if (decide (ac<7) && decide (bc<7))=true then pure (ForInStep.done (none,na-1,nb,out.push x,mg,ac,bc))
 else pure (ForInStep.yield (none,na-1,nb,out.push x,mg,ac,bc))
noncomputable def hB (a b:Array Keyed) (na nb:Nat) (out:Array Keyed) (mg ac bc:Nat):StateT SortSt Sem (ForInStep H2):=do
 let x ←elem' b (nb-1)
 if (nb-1 == 1)=true then pure (ForInStep.done (some (b.extract 0 (nb-1)++a.extract 0 na++(out.push x).reverse),na,nb-1,out.push x,mg,ac,bc))
 else do
  let y ←elem' a (na-1)
  let z ←zdm true y b 0 (nb-1) (nb-1-1)
  match z with
  | some at2 =>
   if nb-1-at2 > 0 then
    if (at2 == 1)=true then pure (ForInStep.done (some (b.extract 0 at2++a.extract 0 na++(out.push x++(b.extract at2 (nb-1)).reverse).reverse),na,at2,out.push x++(b.extract at2 (nb-1)).reverse,mg,ac,nb-1-at2))
    else if (at2 == 0)=true then pure (ForInStep.done (some (a.extract 0 na++b.extract 0 at2++(out.push x++(b.extract at2 (nb-1)).reverse).reverse),na,at2,out.push x++(b.extract at2 (nb-1)).reverse,mg,ac,nb-1-at2))
    else hC a b na at2 (out.push x++(b.extract at2 (nb-1)).reverse) mg ac (nb-1-at2)
   else hC a b na (nb-1) (out.push x) mg ac (nb-1-at2)
  | _=>pure (ForInStep.done (some (a.extract 0 na++b.extract 0 (nb-1)++(out.push x).reverse),na,nb-1,out.push x,mg,ac,bc))
noncomputable def hA (a b:Array Keyed) (na nb:Nat) (out:Array Keyed) (mg ac bc:Nat):StateT SortSt Sem (ForInStep H2):=do
 zh6 mg
 let y ←elem' b (nb-1)
 let z ←zdm false y a 0 na (na-1)
 match z with
 | some at1 =>
  if na-at1 > 0 then
   if (at1 == 0)=true then pure (ForInStep.done (some (a.extract 0 at1++b.extract 0 nb++(out++(a.extract at1 na).reverse).reverse),at1,nb,out++(a.extract at1 na).reverse,mg,na-at1,bc))
   else hB a b at1 nb (out++(a.extract at1 na).reverse) mg (na-at1) bc
  else hB a b na nb out mg (na-at1) bc
 | _=>pure (ForInStep.done (some (a.extract 0 na++b.extract 0 nb++out.reverse),na,nb,out,mg,ac,bc))
section
variable {prog:Program}{w:World}{A:Around}{E:Value->Shared->Prop}{κ:SortKind}{it:Array Keyed}{N:Nat}{r:Nat->Int}{s:Shared}{la lb:List Nat}
inductive Lih (it:Array Keyed) (r:Nat->Int) (la lb:List Nat) (top:Nat) (na nb:Nat) (out:Array Keyed):Prop
 | mk (po:List Nat) (e:out=oA it po) (m:Mh r la lb po na nb) (a1:1<=na) (a2:na<=la.length) (b1:2<=nb) (b2:nb<=lb.length) (hs:na+nb<=top)
noncomputable def Qh (it:Array Keyed) (r:Nat->Int) (la lb:List Nat) (top:Nat) (st0:SortSt) (b:H2) (st':SortSt):Prop:=Ks st0 st'/\((b.1=none/\Lih it r la lb top b.2.1 b.2.2.1 b.2.2.2.1)∨Fin it r la lb b.1)
noncomputable def Rh (it:Array Keyed) (r:Nat->Int) (la lb:List Nat) (top:Nat) (st0:SortSt) (s:Shared) (x:ForInStep H2) (st':SortSt) (s':Shared):Prop:=s' = s/\match x with
 | .done b=>Qh it r la lb top st0 b st'
 | .yield b=>Ks st0 st'/\b.1=none/\Lih it r la lb top b.2.1 b.2.2.1 b.2.2.2.1
theorem zi9 (t:Two N r la lb) {na:Nat}:∀a∈la.take na,∀b∈lb.take 1,r b<r a:=fun a ha b hb=>by
 have b1:=t.b1
 have h1:=t.hd a (List.mem_of_mem_take ha)
 have e:lb.getD 0 0=lb[0]'(by omega):=by rw [List.getD_eq_getElem?_getD,qge (by omega)];rfl
 rw [e] at h1
 have e2:lb.take 1=[lb[0]'(by omega)]:=by
  cases lb with
  | nil=>simp at b1
  | cons x l=>rfl
 rw [e2] at hb
 rw [List.mem_singleton.mp hb];exact h1
theorem znr (t:Two N r la lb) {po:List Nat}{na nb mg ac bc top:Nat}{st0 st:SortSt}(hk:Ks st0 st) (m:Mh r la lb po na nb) (a1:1<=na) (a2:na<=la.length) (b1:2<=nb) (b2:nb<=lb.length) (hl:r (lb[nb-1]'(by omega))<r (la[na-1]'(by omega))) (hs:na+nb<=top) :
  kasC (model prog w) A E (hC (oA it la) (oA it lb) na nb (oA it po) mg ac bc) (Rh it r la lb top st0 s) st s:=by
 unfold hC
 refine kasC_bind (zb0 (by omega) ?_)
 have m1:=m.pushA t.ra a1 a2 b2 (zg3 t.rb (by omega) b2 hl)
 rw [zfu]
 refine za6 (fun e1=>?_) (fun e1=>?_)
 ·have e1:na-1=0:=by simpa using e1
  refine kasC_pure ⟨rfl,hk,.inr ⟨_,?_,m1.fin t.ra t.rb (by omega) b2 (.inl e1)⟩⟩
  show some _=some _
  rw [zcf,zcf,zes,za3,za3]
 ·have e1:¬na-1=0:=by simpa using e1
  refine za6 (fun e2=>?_) (fun e2=>?_)
  ·exact kasC_pure ⟨rfl,hk,.inl ⟨rfl,_,rfl,m1,by show 1<=na-1;omega,by show na-1<=_;omega,b1,b2,by show na-1+nb<=top;omega⟩⟩
  ·exact kasC_pure ⟨rfl,hk,rfl,_,rfl,m1,by show 1<=na-1;omega,by show na-1<=_;omega,b1,b2,by show na-1+nb<=top;omega⟩
theorem zns (hc:Asks prog w A κ it N r s) (t:Two N r la lb) {po:List Nat}{na nb mg ac bc top:Nat}{st0 st:SortSt}(hk:Ks st0 st) (hκ:kindOf st=κ) (m:Mh r la lb po na nb) (a1:1<=na) (a2:na<=la.length) (b1:2<=nb) (b2:nb<=lb.length) (hl:r (la[na-1]'(by omega))<r (lb[nb-1]'(by omega))) (hs:na+nb<=top) :
  kasC (model prog w) A E (hB (oA it la) (oA it lb) na nb (oA it po) mg ac bc) (Rh it r la lb top st0 s) st s:=by
 unfold hB
 refine kasC_bind (zb0 (by omega) ?_)
 have m1:=m.pushB t.rb (by omega) b2 a2 (zg3 t.ra a1 a2 hl)
 rw [zfu]
 refine za6 (fun e1=>?_) (fun e1=>?_)
 ·have e1:nb-1=1:=by simpa using e1
  have hf:=m1.firstB t.ra t.rb a2 (by omega) (by rw [e1];exact zi9 t)
  refine kasC_pure ⟨rfl,hk,.inr ⟨_,?_,hf⟩⟩
  show some _=some _
  rw [zcf,zcf,zes,za3,za3]
 ·have e1:¬nb-1=1:=by simpa using e1
  refine kasC_bind (zb0 (by omega) ?_)
  refine kasC_bind (znq hc t.rb t.nb (t.na _ (qem _)) (by omega) (by omega) (fun x hx=>Ne.symm (t.ne _ (qem _) x hx)) hκ fun k k1 k2 k3=>?_)
  dsimp only
  have m2:=Mh.manyB t.ra t.rb a1 a2 (nb-1-k) m1 (by omega) (by omega) fun i hi q1 q2=>k3 i hi (by omega) q2
  rw [show nb-1-(nb-1-k)=k by omega] at m2
  have hk0:k≠0:=fun e=>by
   have h1:=t.hd (la[na-1]'(by omega)) (qem _)
   have e2:lb.getD 0 0=lb[0]'(by omega):=by rw [List.getD_eq_getElem?_getD,qge (by omega)];rfl
   rw [e2] at h1
   have h2:=k3 0 (by omega) (by omega) (by omega)
   omega
  by_cases e2:nb-1-k > 0
  ·rw [if_pos e2,znp,za3]
   by_cases e3:(k == 1)=true
   ·rw [if_pos e3]
    have e3:k=1:=by simpa using e3
    have hf:=m2.firstB t.ra t.rb a2 (by omega) (by rw [e3];exact zi9 t)
    refine kasC_pure ⟨rfl,hk,.inr ⟨_,?_,hf⟩⟩
    show some _=some _
    rw [zcf,zcf,zes,za3,za3]
   ·rw [if_neg e3,if_neg (by simpa using hk0)]
    have e3:¬k=1:=by simpa using e3
    exact znr t hk m2 a1 a2 (by omega) (by omega) (k2 (k-1) (by omega) (by omega)) (by omega)
  ·rw [if_neg e2]
   exact znr t hk m1 a1 a2 (by omega) (by omega) (k2 (nb-1-1) (by omega) (by omega)) (by omega)
theorem znt (hc:Asks prog w A κ it N r s) (t:Two N r la lb) {po:List Nat}{na nb mg ac bc top:Nat}{st0 st:SortSt}(hk:Ks st0 st) (hκ:kindOf st=κ) (m:Mh r la lb po na nb) (a1:1<=na) (a2:na<=la.length) (b1:2<=nb) (b2:nb<=lb.length) (hs:na+nb<=top) :
  kasC (model prog w) A E (hA (oA it la) (oA it lb) na nb (oA it po) mg ac bc) (Rh it r la lb top st0 s) st s:=by
 unfold hA
 rw [zi6]
 refine kasC_bind (kasC_modify ?_)
 have hk2:=hk.trans (Ks.set st mg)
 have hκ2:kindOf (zi5 st mg)=κ:=hκ
 refine kasC_bind (zb0 (by omega) ?_)
 refine kasC_bind (znq hc t.ra t.na (t.nb _ (qem _)) a1 a2 (fun x hx=>t.ne x hx _ (qem _)) hκ2 fun k k1 k2 k3=>?_)
 dsimp only
 have m2:=Mh.manyA t.ra t.rb (by omega) b2 (na-k) m (by omega) a2 fun i hi q1 q2=>k3 i hi (by omega) q2
 rw [show na-(na-k)=k by omega] at m2
 by_cases e2:na-k > 0
 ·rw [if_pos e2,znp,za3]
  refine za6 (fun e3=>?_) (fun e3=>?_)
  ·have e3:k=0:=by simpa using e3
   refine kasC_pure ⟨rfl,hk2,.inr ⟨_,?_,m2.fin t.ra t.rb (by omega) b2 (.inl e3)⟩⟩
   show some _=some _
   rw [zcf,zcf,zes,za3,za3]
  ·have e3:¬k=0:=by simpa using e3
   exact zns hc t hk2 hκ2 m2 (by omega) (by omega) b1 b2 (k2 (k-1) (by omega) (by omega)) (by omega)
 ·rw [if_neg e2]
  exact zns hc t hk2 hκ2 m a1 a2 b1 b2 (k2 (na-1) (by omega) (by omega)) hs
end
noncomputable def hS (a b:Array Keyed) (mg na nb:Nat) (out:Array Keyed) (ac bc:Nat):StateT SortSt Sem (ForInStep H1):=do
 let x ←elem' b (nb-1)
 let y ←elem' a (na-1)
 let o ←lt' x y
 match o with
 | some w =>
  if w=true then do
   let z ←elem' a (na-1)
   if (na-1 == 0)=true then pure (ForInStep.done (some (a.extract 0 (na-1)++b.extract 0 nb++(out.push z).reverse),na-1,nb,out.push z,ac+1,0))
   else if ac+1 ≥ mg then pure (ForInStep.done (none,na-1,nb,out.push z,ac+1,0))
   else pure (ForInStep.yield (none,na-1,nb,out.push z,ac+1,0))
  else do
   let z ←elem' b (nb-1)
   if (nb-1 == 1)=true then pure (ForInStep.done (some (b.extract 0 (nb-1)++a.extract 0 na++(out.push z).reverse),na,nb-1,out.push z,0,bc+1))
   else if bc+1 ≥ mg then pure (ForInStep.done (none,na,nb-1,out.push z,0,bc+1))
   else pure (ForInStep.yield (none,na,nb-1,out.push z,0,bc+1))
 | _=>pure (ForInStep.done (some (a.extract 0 na++b.extract 0 nb++out.reverse),na,nb,out,ac,bc))
noncomputable def hG (a b:Array Keyed) (p:H2):StateT SortSt Sem (ForInStep H2) :=
 if p.2.2.2.2.1 > 1 then hA a b p.2.1 p.2.2.1 p.2.2.2.1 (p.2.2.2.2.1-1) p.2.2.2.2.2.1 p.2.2.2.2.2.2
 else hA a b p.2.1 p.2.2.1 p.2.2.2.1 p.2.2.2.2.1 p.2.2.2.2.2.1 p.2.2.2.2.2.2
noncomputable def hO (a b:Array Keyed) (n:Nat) (r:H0):StateT SortSt Sem (ForInStep H0):=do
 let q ←forIn [0:n] ((none,r.2.1,r.2.2.1,r.2.2.2.1,0,0):H1) (fun _ q=>hS a b r.2.2.2.2 q.2.1 q.2.2.1 q.2.2.2.1 q.2.2.2.2.1 q.2.2.2.2.2)
 match q.1 with
 | some x=>pure (ForInStep.done (some x,q.2.1,q.2.2.1,q.2.2.2.1,r.2.2.2.2))
 | none=>do
  rule "list.sort.gallop"
  let p ←forIn [0:n] ((none,q.2.1,q.2.2.1,q.2.2.2.1,r.2.2.2.2+1,q.2.2.2.2.1,q.2.2.2.2.2):H2) (fun _ p=>hG a b p)
  match p.1 with
  | some x=>pure (ForInStep.done (some x,p.2.1,p.2.2.1,p.2.2.2.1,p.2.2.2.2.1))
  | none=>do
   zh6 (p.2.2.2.2.1+1)
   pure (ForInStep.yield (none,p.2.1,p.2.2.1,p.2.2.2.1,p.2.2.2.2.1+1))
theorem zty (a b:Array Keyed):zkx a b=(do
 rule "list.sort.merge-hi"
 let x ←elem' a (a.size-1)
 if (a.size-1 == 0)=true then pure (a.extract 0 (a.size-1)++b.extract 0 b.size++#[x].reverse)
 else if (b.size == 1)=true then pure (b.extract 0 b.size++a.extract 0 (a.size-1)++#[x].reverse)
 else do
  let st ←get
  let r ←forIn [0:a.size+b.size] ((none,a.size-1,b.size,#[x],gallopOf st):H0) (fun _ r=>hO a b (a.size+b.size) r)
  match r.1 with
  | some x=>pure x
  | none=>unsupported "internal:list.sort.merge-bound"):=by kernel_rfl
section
variable {prog:Program}{w:World}{A:Around}{E:Value->Shared->Prop}{κ:SortKind}{it:Array Keyed}{N:Nat}{r:Nat->Int}{s:Shared}{la lb:List Nat}
noncomputable def P1 (it:Array Keyed) (r:Nat->Int) (la lb:List Nat) (k0:Nat) (st0:SortSt) (b:H1) (st':SortSt):Prop:=st' = st0/\((b.1=none/\Lih it r la lb (k0-1) b.2.1 b.2.2.1 b.2.2.2.1)∨Fin it r la lb b.1)
noncomputable def J1 (it:Array Keyed) (r:Nat->Int) (la lb:List Nat) (k0:Nat) (st0:SortSt) (k:Nat) (b:H1) (st':SortSt):Prop:=st' = st0/\b.1=none/\Lih it r la lb k0 b.2.1 b.2.2.1 b.2.2.2.1/\b.2.1+b.2.2.1+(la.length+lb.length)<=k0+k
theorem ztz (hc:Asks prog w A κ it N r s) (t:Two N r la lb) {po:List Nat}{na nb mg ac bc k0 k:Nat}{st:SortSt}(hκ:kindOf st=κ) (m:Mh r la lb po na nb) (c1:1<=na) (c2:na<=la.length) (d1:2<=nb) (d2:nb<=lb.length) (hs:na+nb<=k0) (hcn:na+nb+(la.length+lb.length)<=k0+(k+1)) :
  kasC (model prog w) A E (hS (oA it la) (oA it lb) mg na nb (oA it po) ac bc) (fun x st' s'=>s' = s/\match x with | .done b=>P1 it r la lb k0 st b st' | .yield b=>J1 it r la lb k0 st k b st') st s:=by
 unfold hS
 refine kasC_bind (zb0 (by omega) (kasC_bind (zb0 (by omega) ?_)))
 refine kasC_bind (zh4 hc (t.nb _ (qem _)) (t.na _ (qem _)) hκ ?_)
 dsimp only
 refine za6 (fun hw=>?_) (fun hw=>?_)
 ·have hw:=of_decide_eq_true hw
  refine kasC_bind (zb0 (by omega) ?_)
  have m1:=m.pushA t.ra c1 c2 d2 (zg3 t.rb (by omega) d2 hw)
  rw [zfu]
  refine za6 (fun e1=>?_) (fun e1=>?_)
  ·have e1:na-1=0:=by simpa using e1
   refine kasC_pure ⟨rfl,rfl,.inr ⟨_,?_,m1.fin t.ra t.rb (by omega) d2 (.inl e1)⟩⟩
   show some _=some _
   rw [zcf,zcf,zes,za3,za3]
  ·have e1:¬na-1=0:=by simpa using e1
   exact za6 (fun _=>kasC_pure ⟨rfl,rfl,.inl ⟨rfl,_,rfl,m1,by show 1<=na-1;omega,by show na-1<=_;omega,d1,d2,by show na-1+nb<=_;omega⟩⟩)
    fun _=>kasC_pure ⟨rfl,rfl,rfl,⟨_,rfl,m1,by show 1<=na-1;omega,by show na-1<=_;omega,d1,d2,by show na-1+nb<=_;omega⟩,by show na-1+nb+_<=_+k;omega⟩
 ·have hw:¬r (lb[nb-1]'(by omega))<r (la[na-1]'(by omega)):=fun z=>hw (decide_eq_true z)
  have hne:=t.ne (la[na-1]'(by omega)) (qem _) (lb[nb-1]'(by omega)) (qem _)
  refine kasC_bind (zb0 (by omega) ?_)
  have m1:=m.pushB t.rb (by omega) d2 c2 (zg3 t.ra c1 c2 (by omega))
  rw [zfu]
  refine za6 (fun e1=>?_) (fun e1=>?_)
  ·have e1:nb-1=1:=by simpa using e1
   refine kasC_pure ⟨rfl,rfl,.inr ⟨_,?_,m1.firstB t.ra t.rb c2 (by omega) (by rw [e1];exact zi9 t)⟩⟩
   show some _=some _
   rw [zcf,zcf,zes,za3,za3]
  ·have e1:¬nb-1=1:=by simpa using e1
   exact za6 (fun _=>kasC_pure ⟨rfl,rfl,.inl ⟨rfl,_,rfl,m1,c1,c2,by show 2<=nb-1;omega,by show nb-1<=_;omega,by show na+(nb-1)<=_;omega⟩⟩)
    fun _=>kasC_pure ⟨rfl,rfl,rfl,⟨_,rfl,m1,c1,c2,by show 2<=nb-1;omega,by show nb-1<=_;omega,by show na+(nb-1)<=_;omega⟩,by show na+(nb-1)+_<=_+k;omega⟩
theorem zt0 (hc:Asks prog w A κ it N r s) (t:Two N r la lb) {top:Nat}{p:H2}{st0 st:SortSt}(hk:Ks st0 st) (hκ:kindOf st0=κ) (lv:Lih it r la lb top p.2.1 p.2.2.1 p.2.2.2.1) :
  kasC (model prog w) A E (hG (oA it la) (oA it lb) p) (Rh it r la lb top st0 s) st s:=by
 obtain ⟨bb,na,nb,out,mg,ac,bc⟩:=p
 obtain ⟨po,e,m,c1,c2,d1,d2,hs⟩:=lv
 dsimp only at e m c1 c2 d1 d2 hs
 subst e
 have hκ2:kindOf st=κ:=hk.1.trans hκ
 exact za6 (fun _=>znt hc t hk hκ2 m c1 c2 d1 d2 hs) fun _=>znt hc t hk hκ2 m c1 c2 d1 d2 hs
noncomputable def J0 (it:Array Keyed) (r:Nat->Int) (la lb:List Nat) (st0:SortSt) (k:Nat) (b:H0) (st':SortSt):Prop:=Ks st0 st'/\b.1=none/\Lih it r la lb k b.2.1 b.2.2.1 b.2.2.2.1
theorem zt1 (hc:Asks prog w A κ it N r s) (t:Two N r la lb) {st0 st:SortSt}(hκ:kindOf st0=κ) {k:Nat}{b:H0}(h:J0 it r la lb st0 (k+1) b st) :
  kasC (model prog w) A E (hO (oA it la) (oA it lb) (la.length+lb.length) b) (fun x st' s'=>s' = s/\match x with | .done b=>s=s/\Ks st0 st'/\Fin it r la lb b.1 | .yield b=>J0 it r la lb st0 k b st') st s:=by
 obtain ⟨b0,na0,nb0,out0,mg0⟩:=b
 obtain ⟨hks,hb0,lv0⟩:=h
 dsimp only at hb0 lv0
 have hκ':kindOf st=κ:=hks.1.trans hκ
 obtain ⟨po0,e0',m0',a10,a20,b10,b20,hs0⟩:=lv0
 unfold hO
 refine kasC_bind (za7 (zcx (s:=s) (J1 it r la lb (na0+nb0) st) (Q:=fun b st' s'=>s' = s/\P1 it r la lb (na0+nb0) st b st') ?_ ?_ ⟨rfl,rfl,⟨po0,e0',m0',a10,a20,b10,b20,qlr _⟩,qlr _⟩) ?_)
 ·rintro k x ⟨bb,na,nb,out,ac,bc⟩ st'' ⟨rfl,rfl,⟨po,e,m,c1,c2,d1,d2,hs⟩,hcn⟩
  dsimp only at e m c1 c2 d1 d2 hs hcn ⊢
  subst e
  refine za7 (ztz hc t hκ' m c1 c2 d1 d2 hs hcn) ?_
  rintro x st3 s3 ⟨h3,h4⟩
  refine ⟨h3,?_⟩
  cases x with
  | done b=>exact ⟨rfl,h4⟩
  | yield b=>exact h4
 ·rintro ⟨bb,na,nb,out,ac,bc⟩ st'' ⟨rfl,rfl,⟨po,e,m,c1,c2,d1,d2,hs⟩,hcn⟩
  dsimp only at e m c1 c2 d1 d2 hs hcn
  exact ⟨rfl,rfl,.inl ⟨rfl,po,e,m,c1,c2,d1,d2,by show na+nb<=_;omega⟩⟩
 rintro ⟨b1',na1,nb1,out1,ac1,bc1⟩ st1 s1 ⟨hs1,hst1,hb1⟩
 rw [hs1,hst1]
 rcases hb1 with ⟨hn,lv⟩|⟨pm,e,hr⟩
 ·dsimp only at hn lv ⊢
  subst hn
  dsimp only
  refine kasC_bind (kasC_lift (wpAny_rule ?_))
  refine kasC_bind (za7 (zcx (s:=s) (fun k (b:H2) st''=>Ks st st''/\b.1=none/\Lih it r la lb (na0+nb0-1) b.2.1 b.2.2.1 b.2.2.2.1) (Q:=fun (b:H2) st'' s'=>s' = s/\Qh it r la lb (na0+nb0-1) st b st'') ?_ ?_ ⟨Ks.refl _,rfl,lv⟩) ?_)
  ·rintro k x p st'' ⟨hk2,_,lv2⟩
   refine za7 (zt0 hc t hk2 hκ' lv2) ?_
   rintro x st3 s3 ⟨h3,h4⟩
   refine ⟨h3,?_⟩
   cases x with
   | done b=>exact ⟨rfl,h4⟩
   | yield b=>exact h4
  ·rintro b st'' ⟨hk2,hbn,lv2⟩
   exact ⟨rfl,hk2,.inl ⟨hbn,lv2⟩⟩
  rintro ⟨b2,na2,nb2,out2,mg2,ac2,bc2⟩ st2 s2 ⟨hs2,hk2,hb2⟩
  rw [hs2]
  rcases hb2 with ⟨hn,⟨po,e,m,c1,c2,d1,d2,hs⟩⟩|⟨pm,e,hr⟩
  ·dsimp only at hn e m c1 c2 d1 d2 hs ⊢
   subst hn
   dsimp only
   rw [zi6]
   refine kasC_bind (kasC_modify (kasC_pure ⟨rfl,(hks.trans hk2).trans (Ks.set _ _),rfl,⟨po,e,m,c1,c2,d1,d2,?_⟩⟩))
   show na2+nb2<=k
   omega
  ·dsimp only at e ⊢
   subst e
   exact kasC_pure ⟨rfl,rfl,hks.trans hk2,pm,rfl,hr⟩
 ·dsimp only at e ⊢
  subst e
  exact kasC_pure ⟨rfl,rfl,hks,pm,rfl,hr⟩
theorem zt2 (hc:Asks prog w A κ it N r s) (t:Two N r la lb) {st:SortSt}(hκ:kindOf st=κ):kasC (model prog w) A E (zkx (oA it la) (oA it lb)) (MgP it r la lb st s) st s:=by
 have a1:=t.a1
 have b1:=t.b1
 rw [zty]
 refine kasC_bind (kasC_lift (wpAny_rule ?_))
 simp only [zgg]
 refine kasC_bind (zb0 (by omega) ?_)
 have m00:Mh r la lb [] la.length lb.length:=by
  unfold Mh
  rw [Nat.sub_self,Nat.sub_self]
  exact ⟨List.Pairwise.nil,fun o ho=>(by cases ho),fun o ho=>(by cases ho),by simp⟩
 have m0:Mh r la lb [la[la.length-1]'(by omega)] (la.length-1) lb.length:=by
  have:=m00.pushA t.ra a1 (qlr _) (qlr _) (fun z hz=>by
   have:=t.tl z (List.mem_of_mem_take hz)
   have e:la.getD (la.length-1) 0=la[la.length-1]'(by omega):=by rw [List.getD_eq_getElem?_getD,qge (by omega)];rfl
   rw [e] at this;exact this)
  exact this
 have e0:(#[kas_item it (la[la.length-1]'(by omega))]:Array Keyed)=oA it [la[la.length-1]'(by omega)]:=rfl
 rw [e0]
 refine za6 (fun h1=>?_) (fun h1=>?_)
 ·have h1:la.length-1=0:=by simpa using h1
  refine kasC_pure ⟨rfl,Ks.refl _,_,?_,m0.fin t.ra t.rb (by omega) (qlr _) (.inl h1)⟩
  rw [zcf,zcf,zes,za3,za3]
 have h1:¬la.length-1=0:=by simpa using h1
 refine za6 (fun h2=>?_) (fun h2=>?_)
 ·have h2:lb.length=1:=by simpa using h2
  have hf:=m0.firstB t.ra t.rb (by omega) (qlr _) (by rw [h2];exact zi9 t)
  refine kasC_pure ⟨rfl,Ks.refl _,_,?_,hf⟩
  rw [zcf,zcf,zes,za3,za3]
 have h2:¬lb.length=1:=by simpa using h2
 refine kasC_bind (kasC_get ?_)
 refine kasC_bind (za7 (zcx (s:=s) (J0 it r la lb st) (Q:=fun (b:H0) st' s'=>s' = s/\Ks st st'/\Fin it r la lb b.1) (fun k x b st' h=>za7 (zt1 hc t hκ h) fun x st3 s3 h3=>by
  refine ⟨h3.1,?_⟩
  cases x <;> exact h3.2) ?_ ⟨Ks.refl _,rfl,⟨_,rfl,m0,by show 1<=la.length-1;omega,by show la.length-1<=_;omega,by show 2<=lb.length;omega,qlr _,by show la.length-1+lb.length<=_;omega⟩⟩) ?_)
 ·rintro ⟨b0,na0,nb0,out0,mg0⟩ st' ⟨hks,hbn,⟨po,e,m,c1,c2,d1,d2,hs⟩⟩
  exfalso
  dsimp only at c1 hs
  omega
 ·rintro ⟨b0,na0,nb0,out0,mg0⟩ st' s' ⟨hs',hks,⟨pm,e,hr⟩⟩
  rw [hs']
  dsimp only at e ⊢
  subst e
  exact kasC_pure ⟨rfl,hks,pm,rfl,hr⟩
end
theorem zt3 (i:Nat):mergeAt' i=(do
 let s ←get
 let (some (sa,na,power),some (sb,nb,_)):=((pendingOf s)[i]?,(pendingOf s)[i+1]?)|unsupported "internal:list.sort.pending"
 set (setPending s (((pendingOf s).setIfInBounds i (sa,na+nb,power)).eraseIdxIfInBounds (i+1)))
 let some k ←zdm false (←elem' (arrOf s) sb) (arrOf s) sa na 0|return false
 let (sa,na):=(sa+k,na-k)
 if na == 0 then return true
 let some nb ←zdm true (←elem' (arrOf s) (sa+na-1)) (arrOf s) sb nb (nb-1)|return false
 if nb == 0 then return true
 let x:=(arrOf s).extract sa sb
 let y:=(arrOf s).extract sb (sb+nb)
 let merged ←if na<=nb then zkv x y else zkx x y
 modify fun s=>setArr s (merged.toList.zipIdx.foldl (fun a (p,j)=>a.setIfInBounds (sa+j) p) (arrOf s))
 return (failedOf (←get)).isNone):=rfl
section
variable {prog:Program}{w:World}{A:Around}{E:Value->Shared->Prop}{κ:SortKind}{it:Array Keyed}{N:Nat}{r:Nat->Int}{s:Shared}
theorem znu:∀(m l:List Nat) (i j:Nat),i+j+m.length<=l.length->((m.map (kas_item it)).zipIdx j).foldl (fun a (x:Keyed × Nat)=>a.setIfInBounds (i+x.2) x.1) (oA it l)=oA it (l.take (i+j)++m++l.drop (i+j+m.length))
 | [],l,i,j,h=>by simp
 | x :: m,l,i,j,h=>by
  rw [List.length_cons] at h
  rw [List.map_cons,List.zipIdx_cons,List.foldl_cons]
  have e1:(oA it l).setIfInBounds (i+j) (kas_item it x)=oA it (l.set (i+j) x):=by
   unfold oA
   simp [List.map_set]
  show ((m.map (kas_item it)).zipIdx (j+1)).foldl _ ((oA it l).setIfInBounds (i+j) (kas_item it x))=_
  rw [e1,znu m (l.set (i+j) x) i (j+1) (by rw [List.length_set];omega)]
  congr 1
  have e2:(l.set (i+j) x).take (i+(j+1))=l.take (i+j)++[x]:=by
   rw [show i+(j+1)=i+j+1 by omega,zku (by rw [List.length_set];omega),List.take_set,List.set_eq_of_length_le (by rw [List.length_take];omega),List.getElem_set_self]
  have e3:(l.set (i+j) x).drop (i+(j+1)+m.length)=l.drop (i+j+(m.length+1)):=by
   rw [List.drop_set,if_pos (by omega)]
   congr 1
   omega
  rw [e2,e3,List.length_cons]
  simp
end
section
variable {M:Model}{A:Around}{E:Value->Shared->Prop}{σ:Type}
theorem zt4 {x:σ}{Q:PUnit->σ->Shared->Prop}{st:σ}{s:Shared}(h:Q ⟨⟩ x s):kasC M A E (set x:StateT σ Sem PUnit) Q st s:=by
 unfold kasC;rw [StateT.run_set];exact wpAny_pure h
end
section
variable {r:Nat->Int}{X Y:List Nat}
theorem Ri.take {l:List Nat}(h:Ri r l) (i:Nat):Ri r (l.take i):=List.Pairwise.sublist (List.take_sublist i l) h
theorem Ri.cross {l:List Nat}(h:Ri r l) (k:Nat):∀x∈l.take k,∀y∈l.drop k,r x<r y:=by
 unfold Ri at h
 rw [←List.take_append_drop k l,List.pairwise_append] at h
 exact h.2.2
theorem laid {k n:Nat}{M:List Nat}(rX:Ri r X) (rY:Ri r Y) (x0 y0:Nat) (hX:∀x∈X,r x<=r x0) (hY:∀y∈Y,r y0<=r y) (h1:∀x∈X.take k,r x<r y0) (h2:∀y∈Y.drop n,r x0<r y) (hM:Rs r (X.drop k) (Y.take n) M):Rs r X Y (X.take k++M++Y.drop n):=by
 have mem:∀m∈M,m∈X.drop k∨m∈Y.take n:=fun m hm=>List.mem_append.mp (hM.pm.mem_iff.mp hm)
 refine ⟨Ri.app (Ri.app (rX.take k) hM.up fun x hx m hm=>?_) (rY.drop n) fun z hz y hy=>?_,?_⟩
 ·rcases mem m hm with q|q
  ·exact rX.cross k x hx m q
  ·have a:=h1 x hx
   have b:=hY m (List.mem_of_mem_take q)
   omega
 ·rcases List.mem_append.mp hz with q|q
  ·have a:=h1 z q
   have b:=hY y (List.mem_of_mem_drop hy)
   omega
  ·rcases mem z q with q|q
   ·have a:=hX z (List.mem_of_mem_drop q)
    have b:=h2 y hy
    omega
   ·exact rY.cross n z q y hy
 ·refine ((List.Perm.append_left _ hM.pm).append_right _).trans ?_
  have:X.take k++(X.drop k++Y.take n)++Y.drop n=X++Y:=by
   rw [←qaa,List.take_append_drop,qaa,List.take_append_drop]
  rw [this]
end
section
variable {prog:Program}{w:World}{A:Around}{E:Value->Shared->Prop}{κ:SortKind}{it:Array Keyed}{N:Nat}{r:Nat->Int}{s:Shared}{l:List Nat}
theorem znv (hc:Asks prog w A κ it N r s) {base n hint key:Nat}{left:Bool}(nl:∀x∈l,x<N) (hk:key<N) (hb:base+n<=l.length) (hh:hint<n) (rs:Ri r ((l.drop base).take n)) (hne:∀x∈(l.drop base).take n,r x≠r key) {st:SortSt}(hκ:kindOf st=κ) {Q:Option Nat->SortSt->Shared->Prop}
  (h:∀k,k<=n->(∀x∈((l.drop base).take n).take k,r x<r key)->(∀x∈((l.drop base).take n).drop k,r key<r x)->Q (some k) st s):kasC (model prog w) A E (zdm left (kas_item it key) (oA it l) base n hint) Q st s:=by
 have hlen:((l.drop base).take n).length=n:=by rw [List.length_take,List.length_drop];omega
 have hget:∀i (hi:i<n),((l.drop base).take n)[i]'(by omega)=l[base+i]'(by omega):=fun i hi=>by
  rw [List.getElem_take,List.getElem_drop]
 rw [←oA_map]
 refine zkt hc (q:=l.toArray) (base:=base) (n:=n) (hint:=hint) ⟨by simpa using hb,fun j hj=>?_,fun j1 j2 a1 a2=>?_⟩ hk hh (fun j hj=>?_) hκ fun k hk1 hk2 hk3=>?_
 ·have hj:j<l.length:=by simpa using hj
  have e:l.toArray.getD j 0=l[j]:=by simp [hj]
  rw [e];exact nl _ (qem hj)
 ·rw [at_list (by omega),at_list (by omega),←hget j1 (by omega),←hget j2 a2]
  exact rs.get a1 (by omega)
 ·rw [at_list (by omega),←hget j hj]
  exact hne _ (qem _)
 ·refine h k hk1 (fun x hx=>?_) fun x hx=>?_
  ·obtain ⟨i,hi,rfl⟩:=List.mem_iff_getElem.mp hx
   rw [List.length_take,hlen] at hi
   rw [List.getElem_take,hget i (by omega)]
   have:=hk2 i (by omega)
   rw [at_list (by omega)] at this
   exact this
  ·obtain ⟨i,hi,rfl⟩:=List.mem_iff_getElem.mp hx
   rw [List.length_drop,hlen] at hi
   rw [List.getElem_drop,hget (k+i) (by omega)]
   have:=hk3 (k+i) (by omega) (by omega)
   rw [at_list (by omega)] at this
   exact this
structure Sst (κ:SortKind) (it:Array Keyed) (l:List Nat) (pd:Array (Nat × Nat × Nat)) (st:SortSt):Prop where
 k:kindOf st=κ
 a:arrOf st=oA it l
 p:pendingOf st=pd
 f:failedOf st=none
theorem zt5 (hc:Asks prog w A κ it N r s) {pd:Array (Nat × Nat × Nat)}{i sa na pw sb nb pw2:Nat}(nl:∀x∈l,x<N) (di:l.Pairwise fun a b=>r a≠r b) {st:SortSt}(S:Sst κ it l pd st) (h1:pd[i]? = some (sa,na,pw)) (h2:pd[i+1]? = some (sb,nb,pw2)) (hsb:sb=sa+na) (a1:1<=na) (b1:1<=nb) (hle:sb+nb<=l.length) (rX:Ri r ((l.drop sa).take na)) (rY:Ri r ((l.drop sb).take nb)) {Q:Bool->SortSt->Shared->Prop}
  (h:∀M st',Rs r ((l.drop sa).take na) ((l.drop sb).take nb) M->Sst κ it (l.take sa++M++l.drop (sb+nb)) ((pd.setIfInBounds i (sa,na+nb,pw)).eraseIdxIfInBounds (i+1)) st'->Q true st' s):kasC (model prog w) A E (mergeAt' i) Q st s:=by
 obtain ⟨X,hX⟩:∃X,X=(l.drop sa).take na:=⟨_,rfl⟩
 obtain ⟨Y,hY⟩:∃Y,Y=(l.drop sb).take nb:=⟨_,rfl⟩
 have lX:X.length=na:=by rw [hX,List.length_take,List.length_drop];omega
 have lY:Y.length=nb:=by rw [hY,List.length_take,List.length_drop];omega
 have hlX:∀x∈X,x∈l:=fun x hx=>by rw [hX] at hx;exact List.mem_of_mem_drop (List.mem_of_mem_take hx)
 have hlY:∀x∈Y,x∈l:=fun x hx=>by rw [hY] at hx;exact List.mem_of_mem_drop (List.mem_of_mem_take hx)
 have eX:∀j (hj:j<na),X[j]'(by omega)=l[sa+j]'(by omega):=fun j hj=>by
  subst hX
  rw [List.getElem_take,List.getElem_drop]
 have eY:∀j (hj:j<nb),Y[j]'(by omega)=l[sb+j]'(by omega):=fun j hj=>by
  subst hY
  rw [List.getElem_take,List.getElem_drop]
 have ne:∀x∈X,∀y∈Y,r x≠r y:=fun x hx y hy=>by
  obtain ⟨p,hp,rfl⟩:=List.mem_iff_getElem.mp hx
  obtain ⟨q,hq,rfl⟩:=List.mem_iff_getElem.mp hy
  rw [eX p (by omega),eY q (by omega)]
  exact (List.pairwise_iff_getElem.mp di) (sa+p) (sb+q) (by omega) (by omega) (by omega)
 have lsb:l[sb]'(by omega)=Y[0]'(by omega):=by rw [eY 0 (by omega)];rfl
 rw [←hX] at rX h
 rw [←hY] at rY h
 have hYm:∀y∈Y,r (Y[0]'(by omega))<=r y:=fun y hy=>by
  obtain ⟨q,hq,rfl⟩:=List.mem_iff_getElem.mp hy
  by_cases e:q=0
  ·subst e;exact Int.le_refl _
  ·exact Int.le_of_lt (rY.get (by omega) hq)
 have hXm:∀x∈X,r x<=r (X[na-1]'(by omega)):=fun x hx=>by
  obtain ⟨q,hq,rfl⟩:=List.mem_iff_getElem.mp hx
  by_cases e:q=na-1
  ·subst e;exact Int.le_refl _
  ·exact Int.le_of_lt (rX.get (by omega) (by omega))
 rw [zt3]
 refine kasC_bind (kasC_get ?_)
 simp only [S.p,h1,h2,S.a]
 refine kasC_bind (zt4 ?_)
 have S1:Sst κ it l ((pd.setIfInBounds i (sa,na+nb,pw)).eraseIdxIfInBounds (i+1)) (setPending st ((pd.setIfInBounds i (sa,na+nb,pw)).eraseIdxIfInBounds (i+1))):=⟨S.k,S.a,rfl,S.f⟩
 generalize setPending st ((pd.setIfInBounds i (sa,na+nb,pw)).eraseIdxIfInBounds (i+1))=st1 at S1
 refine kasC_bind (zb0 (by omega) ?_)
 rw [lsb]
 refine kasC_bind (znv hc nl (nl _ (hlY _ (qem _))) (by omega) a1 (by rw [←hX];exact rX) (by rw [←hX];exact fun x hx=>ne x hx _ (qem _)) S1.k fun k k1 k2 k3=>?_)
 rw [←hX] at k2 k3
 dsimp only
 refine za6 (fun e1=>?_) (fun e1=>?_)
 ·have e1:na-k=0:=by simpa using e1
  have ek:k=na:=by omega
  refine kasC_pure (h (X++Y) st1 ⟨Ri.app rX rY fun x hx y hy=>?_,.refl _⟩ ?_)
  ·have a:=k2 x (by rw [ek,List.take_of_length_le (by omega)];exact hx)
   have b:=hYm y hy
   omega
  ·have:l.take sa++(X++Y)++l.drop (sb+nb)=l:=by
    rw [hX,hY,hsb,qaa,qaa]
    have e2:(l.drop (sa+na)).take nb++l.drop (sa+na+nb)=l.drop (sa+na):=by rw [←List.drop_drop (i:=nb) (j:=sa+na),List.take_append_drop]
    rw [e2]
    have e3:(l.drop sa).take na++l.drop (sa+na)=l.drop sa:=by rw [←List.drop_drop (i:=na) (j:=sa),List.take_append_drop]
    rw [e3,List.take_append_drop]
   rw [this];exact S1
 have e1:¬na-k=0:=by simpa using e1
 have hlast:l[sa+k+(na-k)-1]'(by omega)=X[na-1]'(by omega):=by
  rw [eX (na-1) (by omega)]
  congr 1
  omega
 refine kasC_bind (zb0 (by omega) ?_)
 rw [hlast]
 refine kasC_bind (znv hc nl (nl _ (hlX _ (qem _))) hle (by omega) (by rw [←hY];exact rY) (by rw [←hY];exact fun y hy=>Ne.symm (ne _ (qem _) y hy)) S1.k fun n n1 n2 n3=>?_)
 rw [←hY] at n2 n3
 dsimp only
 have eXd:(l.drop (sa+k)).take (sb-(sa+k))=X.drop k:=by
  rw [hX,List.drop_take,List.drop_drop,show sb-(sa+k)=na-k by omega]
 have eYt:(l.drop sb).take n=Y.take n:=by
  rw [hY,List.take_take,Nat.min_eq_left n1]
 have mX:X[na-1]'(by omega)∈X.drop k:=by
  rw [List.mem_iff_getElem]
  refine ⟨na-1-k,by rw [List.length_drop];omega,?_⟩
  rw [List.getElem_drop]
  congr 1
  omega
 have hyx:r (Y[0]'(by omega))<r (X[na-1]'(by omega)):=k3 _ mX
 have n0:n≠0:=fun e=>by
  subst e
  have:=n3 (Y[0]'(by omega)) (by rw [List.drop_zero];exact qem _)
  omega
 rw [if_neg (by simpa using n0),zh7,zkw,eXd,eYt]
 have t:Two N r (X.drop k) (Y.take n):=by
  refine ⟨rX.drop k,rY.take n,fun x hx=>nl _ (hlX _ (List.mem_of_mem_drop hx)),fun x hx=>nl _ (hlY _ (List.mem_of_mem_take hx)),fun x hx y hy=>ne x (List.mem_of_mem_drop hx) y (List.mem_of_mem_take hy),by rw [List.length_drop];omega,by rw [List.length_take];omega,fun x hx=>?_,fun y hy=>?_⟩
  ·have e:(Y.take n).getD 0 0=Y[0]'(by omega):=by
    rw [List.getD_eq_getElem?_getD,qge (by rw [List.length_take];omega),List.getElem_take];rfl
   rw [e];exact k3 x hx
  ·have e:(X.drop k).getD ((X.drop k).length-1) 0=X[na-1]'(by omega):=by
    rw [List.getD_eq_getElem?_getD,List.getElem?_drop,List.length_drop,show k+(X.length-k-1)=na-1 by omega,qge (by omega)];rfl
   rw [e];exact n2 y hy
 have fin:∀x st2 s2,MgP it r (X.drop k) (Y.take n) st1 s x st2 s2->kasC (model prog w) A E (do
   modify fun s=>setArr s (List.foldl (fun a (x:Keyed × Nat)=>a.setIfInBounds (sa+k+x.2) x.1) (arrOf s) x.toList.zipIdx)
   return (failedOf (←get)).isNone) Q st2 s2:=by
  skip
  rintro x st2 s2 ⟨hs2,hk2,⟨M,ex,hM⟩⟩
  rw [hs2]
  have ex:x=oA it M:=by injection ex
  subst ex
  have lM:M.length=na-k+n:=by
   have:=hM.pm.length_eq
   rw [qla,List.length_drop,List.length_take] at this
   omega
  have ew:((oA it M).toList.zipIdx.foldl (fun a (x:Keyed × Nat)=>a.setIfInBounds (sa+k+x.2) x.1) (arrOf st2))=oA it (l.take (sa+k)++M++l.drop (sa+k+M.length)):=by
   have:=znu (it:=it) M l (sa+k) 0 (by omega)
   rw [Nat.add_zero] at this
   rw [hk2.2.1,S1.a]
   have e3:(oA it M).toList=M.map (kas_item it):=rfl
   rw [e3]
   exact this
  have hR:=laid rX rY (X[na-1]'(by omega)) (Y[0]'(by omega)) hXm hYm k2 n3 hM
  have el:l.take (sa+k)++M++l.drop (sa+k+M.length)=l.take sa++(X.take k++M++Y.drop n)++l.drop (sb+nb):=by
   have e4:l.take (sa+k)=l.take sa++X.take k:=by
    rw [List.take_add,hX,List.take_take,Nat.min_eq_left k1]
   have e5:l.drop (sa+k+M.length)=Y.drop n++l.drop (sb+nb):=by
    rw [show sa+k+M.length=sb+n by omega,hY,List.drop_take,List.drop_drop]
    have:l.drop (sb+nb)=(l.drop (sb+n)).drop (nb-n):=by rw [List.drop_drop];congr 1;omega
    rw [this,List.take_append_drop]
   rw [e4,e5]
   simp only [qaa]
  refine kasC_bind (kasC_modify (kasC_bind (kasC_get ?_)))
  have ef:(failedOf (setArr st2 ((oA it M).toList.zipIdx.foldl (fun a (x:Keyed × Nat)=>a.setIfInBounds (sa+k+x.2) x.1) (arrOf st2)))).isNone=true:=by
   show (failedOf st2).isNone=true
   rw [hk2.2.2.2,S1.f];rfl
  refine kasC_pure ?_
  have hq:=h _ (setArr st2 ((oA it M).toList.zipIdx.foldl (fun a (x:Keyed × Nat)=>a.setIfInBounds (sa+k+x.2) x.1) (arrOf st2))) hR ⟨hk2.1.trans S1.k,by show (_:Array Keyed)=_;rw [←el];exact ew,hk2.2.2.1.trans S1.p,by show failedOf st2=none;rw [hk2.2.2.2,S1.f]⟩
  rw [←ef] at hq
  exact hq
 by_cases e:na-k<=n
 ·rw [if_pos e];exact kasC_bind (za7 (ztw hc t S1.k) fin)
 ·rw [if_neg e];exact kasC_bind (za7 (zt2 hc t S1.k) fin)
end
section
variable {M:Model}{A:Around}{E:Value->Shared->Prop}{σ β:Type}
theorem zky {f:Nat->β->StateT σ Sem (ForInStep β)}{s:Shared}{a0 b0:Nat}(I:Nat->β->σ->Prop) {Q:β->σ->Shared->Prop}
  (step:∀k x b st,a0<=x->x+(k+1)=b0->I (k+1) b st->kasC M A E (f x b) (fun r st' s'=>s' = s/\match r with | .done b'=>Q b' st' s | .yield b'=>I k b' st') st s)
  (fin:∀b st,I 0 b st->Q b st s) {b:β} {st:σ} (h:I (b0-a0) b st):kasC M A E (forIn [a0:b0] b f) Q st s:=by
 refine kasC_range ?_
 have go:∀(k a:Nat) (b:β) (st:σ),a0<=a->(k=0∨a+k=b0)->I k b st->kasC M A E (forIn (List.range' a k) b f) Q st s:=by
  intro k
  induction k with
  | zero=>intro a b st _ _ h;exact kasC_nil (fin b st h)
  | succ k ih =>
   intro a b st ha he h
   rw [List.range'_succ]
   refine kasC_cons ?_
   have:=step k a b st ha (by omega) h
   unfold kasC at this ⊢
   refine wpAny_mono this (fun r s' hr=>?_) fun _ _ e=>e
   obtain ⟨rfl,hr⟩:=hr
   obtain ⟨r,st'⟩:=r
   cases r with
   | done b'=>exact hr
   | yield b'=>exact ih (a+1) b' st' (by omega) (by omega) hr
 exact go (b0-a0) a0 b st (qlr _) (by omega) h
end
structure Gd (N:Nat) (r:Nat->Int) (p:Array Nat):Prop where
 nl:∀x∈p.toList,x<N
 di:p.toList.Pairwise fun a b=>r a≠r b
section
variable {N:Nat}{r:Nat->Int}{p p':Array Nat}
theorem zh8 {i:Nat}(hi:i<p.size):p.getD i 0=p.toList[i]'(by simpa using hi):=by simp [hi]
theorem Gd.lt (h:Gd N r p) {i:Nat}(hi:i<p.size):p.getD i 0<N:=by
 rw [zh8 hi];exact h.nl _ (qem _)
theorem Gd.ne (h:Gd N r p) {i j:Nat}(hi:i<p.size) (hj:j<p.size) (hij:i≠j):SP.at' r p i≠SP.at' r p j:=by
 unfold SP.at'
 rw [zh8 hi,zh8 hj]
 have:=List.pairwise_iff_getElem.mp h.di
 rcases Nat.lt_or_ge i j with z|z
 ·exact this i j (by simpa using hi) (by simpa using hj) z
 ·exact Ne.symm (this j i (by simpa using hj) (by simpa using hi) (by omega))
theorem Gd.perm (h:Gd N r p) (hp:p'.Perm p):Gd N r p':=by
 have hl:=Array.perm_iff_toList_perm.mp hp
 refine ⟨fun x hx=>h.nl x (hl.mem_iff.mp hx),?_⟩
 exact (hl.pairwise_iff (fun {a b} (hab:r a≠r b)=>Ne.symm hab)).mpr h.di
noncomputable def UpS (r:Nat->Int) (p:Array Nat) (lo m:Nat):Prop:=∀i j,i<j->j<m->SP.at' r p (lo+i)<SP.at' r p (lo+j)
structure Keep (lo hi:Nat) (p p':Array Nat):Prop where
 pm:p'.Perm p
 out:∀x,(x<lo∨hi<=x)->p'[x]? = p[x]?
theorem Keep.refl (lo hi:Nat) (p:Array Nat):Keep lo hi p p:=⟨.refl _,fun _ _=>rfl⟩
theorem Keep.trans {lo hi:Nat}{a b c:Array Nat}(h:Keep lo hi a b) (k:Keep lo hi b c):Keep lo hi a c:=⟨k.pm.trans h.pm,fun x hx=>(k.out x hx).trans (h.out x hx)⟩
theorem Keep.size {lo hi:Nat}(h:Keep lo hi p p'):p'.size=p.size:=h.pm.size_eq
theorem zt6 {lo hi i j:Nat}(h1:lo<=i) (h2:j<=hi) (h3:j<=p.size):Keep lo hi p (kas_rev p i j):=⟨mirror_perm p i j _,fun x hx=>by
 unfold kas_rev
 rw [getElem?_mirror_all h3,if_neg (by omega)]⟩
theorem zt7 {lo hi k d:Nat}(h1:lo+d<=k) (h2:k<hi) (h3:k<p.size):Keep lo hi p (bubble p k d):=⟨bubble_perm p k d,fun x hx=>by
 rw [getElem?_bubble h3 d (by omega),if_neg (by omega),if_neg (by omega)]⟩
end
section
variable {prog:Program}{w:World}{A:Around}{E:Value->Shared->Prop}{κ:SortKind}{it:Array Keyed}{N:Nat}{r:Nat->Int}{s:Shared}{p:Array Nat}{pd:Array (Nat × Nat × Nat)}
theorem Sst.arr {st:SortSt}(S:Sst κ it p.toList pd st):arrOf st=p.map (kas_item it):=by
 rw [S.a,←oA_map]
theorem zh9 (hc:Asks prog w A κ it N r s) (g:Gd N r p) {st:SortSt}(S:Sst κ it p.toList pd st) {i j:Nat}(hi:i<p.size) (hj:j<p.size) {Q:Option Bool->SortSt->Shared->Prop}(h:Q (some (decide (SP.at' r p i<SP.at' r p j))) st s):kasC (model prog w) A E (ltAt' i j) Q st s:=by
 rw [ltAt'_eq]
 refine kasC_bind (kasC_get ?_)
 show kasC _ _ _ (do let x ←elem' (arrOf st) i;let y ←elem' (arrOf st) j;lt' x y) Q _ _
 rw [S.arr]
 refine kasC_bind (zi4 hi (kasC_bind (zi4 hj ?_)))
 exact zh4 hc (g.lt hi) (g.lt hj) S.k h
theorem zt8 {st:SortSt}(S:Sst κ it p.toList pd st) {i j:Nat}{Q:Unit->SortSt->Shared->Prop}(h:∀st',Sst κ it (kas_rev p i j).toList pd st'->Q () st' s):kasC (model prog w) A E (reverseSlice' i j) Q st s:=by
 rw [reverseSlice'_eq]
 refine kasC_modify (h _ ⟨S.k,?_,S.p,S.f⟩)
 show mirror (arrOf st) i j ((j-i) / 2)=_
 rw [S.arr,←oA_map]
 show _=(kas_rev p i j).toList.toArray.map (kas_item it)
 have e1:mirror (p.map (kas_item it)) i j ((j-i) / 2)=(mirror p i j ((j-i) / 2)).map (kas_item it):=kas_swaps_map (kas_item it) (fun k=>i+k) (fun k=>j-1-k) _ p
 rw [e1];rfl
theorem zt9 {st:SortSt}(S:Sst κ it p.toList pd st) {k l:Nat}{Q:Unit->SortSt->Shared->Prop}(h:∀st',Sst κ it (bubble p k (k-l)).toList pd st'->Q () st' s):kasC (model prog w) A E (moveDown' k l) Q st s:=by
 rw [moveDown'_eq]
 refine kasC_modify (h _ ⟨S.k,?_,S.p,S.f⟩)
 show bubble (arrOf st) k (k-l)=_
 rw [S.arr,←oA_map]
 show _=(bubble p k (k-l)).toList.toArray.map (kas_item it)
 have e1:bubble (p.map (kas_item it)) k (k-l)=(bubble p k (k-l)).map (kas_item it):=kas_swaps_map (kas_item it) (fun i=>k-i) (fun i=>k-i-1) _ p
 rw [e1]
end
noncomputable def znw (lo a nrem n0:Nat):StateT SortSt Sem (Option (Option Nat) × Nat):=forIn [a:nrem] ((none,n0):Option (Option Nat) × Nat) fun _ b=>do
 let x ←ltAt' (lo+b.2) (lo+b.2-1)
 match x with
 | some smaller=>if smaller=true then pure (ForInStep.done (none,b.2)) else pure (ForInStep.yield (none,b.2+1))
 | _=>pure (ForInStep.done (some none,b.2))
section
variable {prog:Program}{w:World}{A:Around}{E:Value->Shared->Prop}{κ:SortKind}{it:Array Keyed}{N:Nat}{r:Nat->Int}{s:Shared}{p:Array Nat}{pd:Array (Nat × Nat × Nat)}
theorem UpS.more {lo n:Nat}(u:UpS r p lo n) (hn:1<=n) (h:SP.at' r p (lo+n-1)<SP.at' r p (lo+n)):UpS r p lo (n+1):=fun i j hij hj=>by
 by_cases e:j=n
 ·subst e
  by_cases e2:i=j-1
  ·rw [e2,show lo+(j-1)=lo+j-1 by omega];exact h
  ·have:=u i (j-1) (by omega) (by omega)
   rw [show lo+(j-1)=lo+j-1 by omega] at this
   exact Int.lt_trans this h
 ·exact u i j hij (by omega)
noncomputable def DnS (r:Nat->Int) (p:Array Nat) (lo m:Nat):Prop:=∀i j,i<j->j<m->SP.at' r p (lo+j)<SP.at' r p (lo+i)
theorem DnS.more {lo n:Nat}(u:DnS r p lo n) (hn:1<=n) (h:SP.at' r p (lo+n)<SP.at' r p (lo+n-1)):DnS r p lo (n+1):=fun i j hij hj=>by
 by_cases e:j=n
 ·subst e
  by_cases e2:i=j-1
  ·rw [e2,show lo+(j-1)=lo+j-1 by omega];exact h
  ·have:=u i (j-1) (by omega) (by omega)
   rw [show lo+(j-1)=lo+j-1 by omega] at this
   exact Int.lt_trans h this
 ·exact u i j hij (by omega)
theorem DnS.rev {lo n:Nat}(u:DnS r p lo n) (h:lo+n<=p.size):UpS r (kas_rev p lo (lo+n)) lo n:=fun i j hij hj=>by
 have g:∀k,k<n->SP.at' r (kas_rev p lo (lo+n)) (lo+k)=SP.at' r p (lo+(n-1-k)):=fun k hk=>SP.at_of (by
  unfold kas_rev
  rw [getElem?_mirror_all h,if_pos ⟨by omega,by omega⟩]
  congr 1;omega)
 rw [g i (by omega),g j hj]
 exact u _ _ (by omega) (by omega)
theorem znx (hc:Asks prog w A κ it N r s) (g:Gd N r p) {st:SortSt}(S:Sst κ it p.toList pd st) {lo a nrem:Nat}(h1:1<=a) (h2:a<=nrem) (h3:lo+nrem<=p.size) (u:UpS r p lo a) :
  kasC (model prog w) A E (znw lo a nrem a) (fun b st' s'=>s' = s/\st' = st/\b.1=none/\a<=b.2/\b.2<=nrem/\UpS r p lo b.2/\(b.2<nrem->SP.at' r p (lo+b.2)<SP.at' r p (lo+b.2-1))) st s:=by
 unfold znw
 refine zky (s:=s) (fun k (b:Option (Option Nat) × Nat) st'=>st' = st/\b.1=none/\a<=b.2/\b.2+k=nrem/\UpS r p lo b.2) ?_ ?_ ⟨rfl,rfl,qlr _,(by show a+(nrem-a)=nrem;omega),u⟩
 ·rintro k x ⟨b1,n⟩ st' _ _ ⟨rfl,rfl,hn1,hn2,un⟩
  dsimp only at hn1 hn2 un ⊢
  refine kasC_bind (zh9 hc g S (by omega) (by omega) ?_)
  dsimp only
  by_cases hb:SP.at' r p (lo+n)<SP.at' r p (lo+n-1)
  ·rw [if_pos (decide_eq_true hb)]
   exact kasC_pure ⟨rfl,rfl,rfl,rfl,hn1,(by show n<=nrem;omega),un,fun _=>hb⟩
  ·rw [if_neg (by rw [decide_eq_true_iff];exact hb)]
   have hne:=g.ne (i:=lo+n) (j:=lo+n-1) (by omega) (by omega) (by omega)
   exact kasC_pure ⟨rfl,rfl,rfl,(by show a<=n+1;omega),(by show n+1+k=nrem;omega),un.more (by omega) (by omega)⟩
 ·rintro ⟨b1,n⟩ st' ⟨rfl,rfl,hn1,hn2,un⟩
  dsimp only at hn1 hn2 un
  exact ⟨rfl,rfl,rfl,hn1,(by show n<=nrem;omega),un,fun z=>absurd z (by show ¬n<nrem;omega)⟩
theorem zua (hc:Asks prog w A κ it N r s) (g:Gd N r p) {st:SortSt}(S:Sst κ it p.toList pd st) {lo nrem:Nat}(h1:1<=nrem) (h3:lo+nrem<=p.size) {Q:Option Nat->SortSt->Shared->Prop}
  (h:∀n p' st',1<=n->n<=nrem->Keep lo (lo+nrem) p p'->UpS r p' lo n->Sst κ it p'.toList pd st'->Q (some n) st' s):kasC (model prog w) A E (countRun' lo nrem) Q st s:=by
 rw [countRun'_eq]
 refine kasC_bind (za7 (znx hc g S (qlr 1) h1 h3 (fun i j hij hj=>by omega)) ?_)
 rintro ⟨b1,n⟩ st' s' ⟨hs,hst,hb,hn1,hn2,un,hn3⟩
 dsimp only at hb hn1 hn2 un hn3
 subst hb
 rw [hs,hst]
 dsimp only
 refine za6 (fun e1=>?_) (fun e1=>?_)
 ·exact kasC_pure (h n p st hn1 hn2 (Keep.refl ..) un S)
 have e1:¬n=nrem:=by simpa using e1
 refine za6 (fun e2=>?_) (fun e2=>?_)
 ·refine kasC_bind (zh9 hc g S (by omega) (by omega) ?_)
  dsimp only
  have hr:SP.at' r p lo<SP.at' r p (lo+n-1):=by
   have:=un 0 (n-1) (by omega) (by omega)
   rw [Nat.add_zero,show lo+(n-1)=lo+n-1 by omega] at this
   exact this
  rw [if_pos (decide_eq_true hr)]
  exact kasC_pure (h n p st hn1 hn2 (Keep.refl ..) un S)
 have en:n=1:=by omega
 subst en
 refine kasC_bind (kasC_lift (wpAny_rule ?_))
 have d2:DnS r p lo 2:=fun i j hij hj=>by
  have:i=0/\j=1:=by omega
  rw [this.1,this.2]
  exact hn3 (by omega)
 refine kasC_bind (za7 (zky (s:=s) (fun k (b:Option (Option Nat) × Nat × Nat) st'=>st' = st/\b.1=none/\b.2.2=0/\2<=b.2.1/\b.2.1+k=nrem/\DnS r p lo b.2.1) (Q:=fun (b:Option (Option Nat) × Nat × Nat) st' s'=>s' = s/\st' = st/\b.1=none/\b.2.2=0/\2<=b.2.1/\b.2.1<=nrem/\DnS r p lo b.2.1) ?_ ?_ ⟨rfl,rfl,rfl,qlr _,(by show 2+(nrem-2)=nrem;omega),d2⟩) ?_)
 ·rintro k x ⟨b1,n,q⟩ st' _ _ ⟨rfl,rfl,hq,hn1,hn2,un⟩
  dsimp only at hq hn1 hn2 un ⊢
  subst hq
  refine kasC_bind (zh9 hc g S (by omega) (by omega) ?_)
  dsimp only
  by_cases hb:SP.at' r p (lo+n)<SP.at' r p (lo+n-1)
  ·rw [if_pos (decide_eq_true hb),if_neg (by omega)]
   exact kasC_pure ⟨rfl,rfl,rfl,rfl,(by show 2<=n+1;omega),(by show n+1+k=nrem;omega),un.more (by omega) hb⟩
  ·rw [if_neg (by rw [decide_eq_true_iff];exact hb)]
   have hne:=g.ne (i:=lo+n) (j:=lo+n-1) (by omega) (by omega) (by omega)
   refine kasC_bind (zh9 hc g S (by omega) (by omega) ?_)
   dsimp only
   rw [if_pos (decide_eq_true (by omega))]
   exact kasC_pure ⟨rfl,rfl,rfl,rfl,rfl,hn1,(by show n<=nrem;omega),un⟩
 ·rintro ⟨b1,n,q⟩ st' ⟨rfl,rfl,hq,hn1,hn2,un⟩
  dsimp only at hq hn1 hn2 un
  exact ⟨rfl,rfl,rfl,hq,hn1,(by show n<=nrem;omega),un⟩
 rintro ⟨b1,n,q⟩ st' s' ⟨hs,hst,hb,hq,hn1,hn2,un⟩
 dsimp only at hb hq hn1 hn2 un
 subst hb
 subst hq
 rw [hs,hst]
 dsimp only
 rw [if_neg (by omega)]
 refine kasC_bind (zt8 S fun st2 S2=>?_)
 have kp:Keep lo (lo+nrem) p (kas_rev p lo (lo+n)):=zt6 (qlr _) (by omega) (by omega)
 refine kasC_bind (za7 (znx hc (g.perm kp.pm) S2 (by omega) hn2 (by rw [kp.size];exact h3) (un.rev (by omega))) ?_)
 rintro ⟨b1,m⟩ st' s' ⟨hs,hst,hb,hm1,hm2,um,_⟩
 dsimp only at hb hm1 hm2 um
 subst hb
 rw [hs,hst]
 exact kasC_pure (h m _ st2 (by omega) hm2 kp um S2)
end
section
variable {prog:Program}{w:World}{A:Around}{E:Value->Shared->Prop}{κ:SortKind}{it:Array Keyed}{N:Nat}{r:Nat->Int}{s:Shared}{p:Array Nat}{pd:Array (Nat × Nat × Nat)}
theorem zub {lo x l:Nat}(u:UpS r p lo x) (hl:l<=x) (hx:lo+x<p.size) (a:∀i,i<l->SP.at' r p (lo+i)<SP.at' r p (lo+x)) (b:∀i,l<=i->i<x->SP.at' r p (lo+x)<SP.at' r p (lo+i)):UpS r (bubble p (lo+x) (lo+x-(lo+l))) lo (x+1):=fun i j hij hj=>by
 have g:∀y,y<=x->SP.at' r (bubble p (lo+x) (lo+x-(lo+l))) (lo+y)=if y=l then SP.at' r p (lo+x) else if l<y then SP.at' r p (lo+(y-1)) else SP.at' r p (lo+y):=fun y hy=>by
  have h:=getElem?_bubble (xs:=p) (src:=lo+x) hx (lo+x-(lo+l)) (by omega) (lo+y)
  have e1:lo+x-(lo+x-(lo+l))=lo+l:=by omega
  rw [e1] at h
  by_cases z:y=l
  ·rw [if_pos (by omega)] at h;rw [if_pos z];exact SP.at_of h
  ·rw [if_neg (by omega)] at h;rw [if_neg z]
   by_cases z2:l<y
   ·rw [if_pos ⟨by omega,by omega⟩,show lo+y-1=lo+(y-1) by omega] at h;rw [if_pos z2];exact SP.at_of h
   ·rw [if_neg (by omega)] at h;rw [if_neg z2];exact SP.at_of h
 rw [g i (by omega),g j (by omega)]
 by_cases z1:i=l
 ·rw [if_pos z1,if_neg (by omega),if_pos (by omega)];exact b _ (by omega) (by omega)
 ·rw [if_neg z1]
  by_cases z2:l<i
  ·rw [if_pos z2,if_neg (by omega),if_pos (by omega)];exact u _ _ (by omega) (by omega)
  ·rw [if_neg z2]
   by_cases z3:j=l
   ·rw [if_pos z3];exact a i (by omega)
   ·rw [if_neg z3]
    by_cases z4:l<j
    ·rw [if_pos z4]
     exact Int.lt_trans (a i (by omega)) (b (j-1) (by omega) (by omega))
    ·rw [if_neg z4];exact u i j hij (by omega)
inductive BiP (κ:SortKind) (it:Array Keyed) (r:Nat->Int) (p:Array Nat) (pd:Array (Nat × Nat × Nat)) (lo n m:Nat) (st':SortSt):Prop
 | mk (p':Array Nat) (kp:Keep lo (lo+n) p p') (u:UpS r p' lo m) (S:Sst κ it p'.toList pd st')
theorem zuc (hc:Asks prog w A κ it N r s) (g:Gd N r p) {st:SortSt}(S:Sst κ it p.toList pd st) {lo n ok:Nat}(h1:1<=ok) (h2:ok<=n) (h3:lo+n<=p.size) (u:UpS r p lo ok) {Q:Bool->SortSt->Shared->Prop}
  (h:∀p' st',Keep lo (lo+n) p p'->UpS r p' lo n->Sst κ it p'.toList pd st'->Q true st' s):kasC (model prog w) A E (binarySort' lo n ok) Q st s:=by
 rw [binarySort'_eq]
 have em:max ok 1=ok:=by omega
 rw [em]
 refine kasC_bind (za7 (zky (s:=s) (fun k (b:Option Bool × Unit) st'=>b.1=none/\BiP κ it r p pd lo n (n-k) st') (Q:=fun (b:Option Bool × Unit) st' s'=>s' = s/\b.1=none/\BiP κ it r p pd lo n n st') ?_ ?_ ⟨rfl,p,Keep.refl ..,by rw [show n-(n-ok)=ok by omega];exact u,S⟩) ?_)
 ·rintro k x ⟨b1,b2⟩ st' hx1 hx2 ⟨hb,⟨p',kp,u',S'⟩⟩
  dsimp only at hb ⊢
  subst hb
  have ex:n-(k+1)=x:=by omega
  rw [ex] at u'
  have hsz:=kp.size
  have g':=g.perm kp.pm
  refine kasC_bind (za7 (zcx (s:=s) (fun j (b:Option Bool × Nat × Nat) st''=>st'' = st'/\b.1=none/\b.2.1<=b.2.2/\b.2.2<=x/\(∀i,i<b.2.1->SP.at' r p' (lo+i)<SP.at' r p' (lo+x))/\(∀i,b.2.2<=i->i<x->SP.at' r p' (lo+x)<SP.at' r p' (lo+i))/\b.2.2<=b.2.1+j) (Q:=fun (b:Option Bool × Nat × Nat) st'' s'=>s' = s/\st'' = st'/\b.1=none/\b.2.1<=x/\(∀i,i<b.2.1->SP.at' r p' (lo+i)<SP.at' r p' (lo+x))/\(∀i,b.2.1<=i->i<x->SP.at' r p' (lo+x)<SP.at' r p' (lo+i))) ?_ ?_ ⟨rfl,rfl,Nat.zero_le _,qlr _,fun i hi=>absurd hi (Nat.not_lt_zero _),fun i hi1 hi2=>absurd hi2 (by have hi1:x<=i:=hi1;omega),by show x<=0+x;omega⟩) ?_)
  ·rintro j y ⟨c1,l,rr⟩ st'' ⟨rfl,rfl,q1,q2,q3,q4,q5⟩
   dsimp only at q1 q2 q3 q4 q5 ⊢
   refine za6 (fun hge=>?_) (fun hge=>?_)
   ·exact kasC_pure ⟨rfl,rfl,rfl,rfl,(by show l<=x;omega),q3,fun i hi1 hi2=>q4 i (by have hi1:l<=i:=hi1;omega) hi2⟩
   ·refine kasC_bind (zh9 hc g' S' (by omega) (by omega) ?_)
    dsimp only
    by_cases hb:SP.at' r p' (lo+x)<SP.at' r p' (lo+(l+rr) / 2)
    ·rw [if_pos (decide_eq_true hb)]
     refine kasC_pure ⟨rfl,rfl,rfl,(by show l<=(l+rr) / 2;omega),(by show (l+rr) / 2<=x;omega),q3,fun i hi1 hi2=>?_,(by show (l+rr) / 2<=l+j;omega)⟩
     have hi1:(l+rr) / 2<=i:=hi1
     by_cases z:i=(l+rr) / 2
     ·rw [z];exact hb
     ·exact Int.lt_trans hb (u' _ _ (by omega) hi2)
    ·rw [if_neg (by rw [decide_eq_true_iff];exact hb)]
     have hne:=g'.ne (i:=lo+x) (j:=lo+(l+rr) / 2) (by omega) (by omega) (by omega)
     refine kasC_pure ⟨rfl,rfl,rfl,(by show (l+rr) / 2+1<=rr;omega),q2,fun i hi1=>?_,q4,(by show rr<=(l+rr) / 2+1+j;omega)⟩
     have hi1:i<(l+rr) / 2+1:=hi1
     by_cases z:i=(l+rr) / 2
     ·rw [z];omega
     ·have:=u' i ((l+rr) / 2) (by omega) (by omega)
      omega
  ·rintro ⟨c1,l,rr⟩ st'' ⟨rfl,rfl,q1,q2,q3,q4,q5⟩
   dsimp only at q1 q2 q3 q4 q5
   exact ⟨rfl,rfl,rfl,(by show l<=x;omega),q3,fun i hi1 hi2=>q4 i (by have hi1:l<=i:=hi1;omega) hi2⟩
  rintro ⟨c1,l,rr⟩ st'' s'' ⟨hs,hst,hcn,q1,q2,q3⟩
  dsimp only at hcn q1 q2 q3
  subst hcn
  rw [hs,hst]
  refine kasC_bind (zt9 S' fun st2 S2=>?_)
  refine kasC_pure ⟨rfl,rfl,_,kp.trans (zt7 (by omega) (by omega) (by omega)),?_,S2⟩
  have:=zub u' q1 (by omega) q2 q3
  rw [show n-k=x+1 by omega]
  exact this
 ·rintro ⟨b1,b2⟩ st' ⟨hb,⟨p',kp,u',S'⟩⟩
  exact ⟨rfl,hb,p',kp,u',S'⟩
 rintro ⟨b1,b2⟩ st' s' ⟨hs,hb,⟨p',kp,u',S'⟩⟩
 dsimp only at hb
 subst hb
 rw [hs]
 exact kasC_pure (h p' st' kp u' S')
end
noncomputable def Tl (r:Nat->Int) (l:List Nat):List (Nat × Nat × Nat)->Nat->Nat->Prop
 | [],a,b=>a=b
 | x :: xs,a,b=>x.1=a/\1<=x.2.1/\a+x.2.1<=l.length/\Ri r ((l.drop a).take x.2.1)/\Tl r l xs (a+x.2.1) b
section
variable {r:Nat->Int}{l l':List Nat}
theorem Tl.le:∀{xs:List (Nat × Nat × Nat)}{a b:Nat},Tl r l xs a b->a<=b
 | [],a,b,h=>Nat.le_of_eq h
 | x :: xs,a,b,h=>by have:=Tl.le h.2.2.2.2;omega
theorem Tl.app:∀{xs ys:List (Nat × Nat × Nat)}{a b:Nat},Tl r l (xs++ys) a b↔∃c,Tl r l xs a c/\Tl r l ys c b
 | [],ys,a,b=>⟨fun h=>⟨a,rfl,h⟩,fun h=>by obtain ⟨c,h1,h2⟩:=h;have h1:a=c:=h1;subst h1;exact h2⟩
 | x :: xs,ys,a,b=>by
  constructor
  ·rintro ⟨h1,h2,h3,h4,h5⟩
   obtain ⟨c,h6,h7⟩:=Tl.app.mp h5
   exact ⟨c,⟨h1,h2,h3,h4,h6⟩,h7⟩
  ·rintro ⟨c,⟨h1,h2,h3,h4,h5⟩,h6⟩
   exact ⟨h1,h2,h3,h4,Tl.app.mpr ⟨c,h5,h6⟩⟩
theorem Tl.congr (hl:l'.length=l.length):∀{xs:List (Nat × Nat × Nat)}{a b:Nat},(∀i,a<=i->i<b->l'[i]? = l[i]?)->Tl r l xs a b->Tl r l' xs a b
 | [],a,b,_,h=>h
 | x :: xs,a,b,he,h=>by
  obtain ⟨h1,h2,h3,h4,h5⟩:=h
  have hle:=Tl.le h5
  refine ⟨h1,h2,by omega,?_,Tl.congr hl (fun i hi1 hi2=>he i (by omega) hi2) h5⟩
  have:(l'.drop a).take x.2.1=(l.drop a).take x.2.1:=by
   apply List.ext_getElem?
   intro i
   rw [List.getElem?_take,List.getElem?_take]
   by_cases hi:i<x.2.1
   ·rw [if_pos hi,if_pos hi,List.getElem?_drop,List.getElem?_drop]
    exact he (a+i) (by omega) (by omega)
   ·rw [if_neg hi,if_neg hi]
  rw [this];exact h4
end
section
variable {prog:Program}{w:World}{A:Around}{E:Value->Shared->Prop}{κ:SortKind}{it:Array Keyed}{N:Nat}{r:Nat->Int}{s:Shared}{l:List Nat}{pd:Array (Nat × Nat × Nat)}
inductive MtP (κ:SortKind) (it:Array Keyed) (r:Nat->Int) (l:List Nat) (pd:Array (Nat × Nat × Nat)) (lo:Nat) (s:Shared) (b:Bool) (st':SortSt) (s':Shared):Prop
 | mk (e:b=true) (hs:s' = s) (l':List Nat) (pd':Array (Nat × Nat × Nat)) (S:Sst κ it l' pd' st') (pm:l'.Perm l) (t:Tl r l' pd'.toList 0 lo) (z:pd'.size+1=pd.size) (dr:∀i,lo<=i->l'[i]? = l[i]?)
theorem zny (hc:Asks prog w A κ it N r s) (nl:∀x∈l,x<N) (di:l.Pairwise fun a b=>r a≠r b) {st:SortSt}(S:Sst κ it l pd st) {i lo:Nat}(t:Tl r l pd.toList 0 lo) (hi:i+1<pd.size):kasC (model prog w) A E (mergeAt' i) (MtP κ it r l pd lo s) st s:=by
 obtain ⟨x,y,pre,post,e,hpre⟩:∃x y pre post,pd.toList=pre++x :: y :: post/\pre.length=i:=by
  have h1:i<pd.toList.length:=by simpa using (by omega:i<pd.size)
  have h2:i+1<pd.toList.length:=by simpa using hi
  refine ⟨pd.toList[i],pd.toList[i+1],pd.toList.take i,pd.toList.drop (i+2),?_,by rw [List.length_take];omega⟩
  rw [←List.drop_eq_getElem_cons h2,←List.drop_eq_getElem_cons h1,List.take_append_drop]
 obtain ⟨sa,na,pw⟩:=x
 obtain ⟨sb,nb,pw2⟩:=y
 have t0:=t
 rw [e] at t
 obtain ⟨c,tp,h1,h2,h3,h4,h5,h6,h7,h8,tq⟩:=Tl.app.mp t
 dsimp only at h1 h2 h3 h4 h5 h6 h7 h8 tq
 have g1:pd[i]? = some (sa,na,pw):=by
  rw [←Array.getElem?_toList,e,←hpre,List.getElem?_append_right (qlr _)];simp
 have g2:pd[i+1]? = some (sb,nb,pw2):=by
  rw [←Array.getElem?_toList,e,←hpre,List.getElem?_append_right (by omega)];simp
 subst h1
 have hsb:sb=sa+na:=h5
 refine zt5 hc nl di S g1 g2 hsb h2 h6 (by omega) h4 (by rw [hsb];exact h8) fun M st' hM S'=>?_
 have lX:((l.drop sa).take na).length=na:=by rw [List.length_take,List.length_drop];omega
 have lY:((l.drop sb).take nb).length=nb:=by rw [List.length_take,List.length_drop];omega
 have lM:M.length=na+nb:=by
  have:=hM.pm.length_eq
  rw [qla,lX,lY] at this
  exact this
 have lsa:(l.take sa).length=sa:=by rw [List.length_take];omega
 have el:l=l.take sa++((l.drop sa).take na++(l.drop sb).take nb)++l.drop (sb+nb):=by
  rw [hsb,qaa,qaa]
  have e2:(l.drop (sa+na)).take nb++l.drop (sa+na+nb)=l.drop (sa+na):=by rw [←List.drop_drop (i:=nb) (j:=sa+na),List.take_append_drop]
  rw [e2]
  have e3:(l.drop sa).take na++l.drop (sa+na)=l.drop sa:=by rw [←List.drop_drop (i:=na) (j:=sa),List.take_append_drop]
  rw [e3,List.take_append_drop]
 have hpm:(l.take sa++M++l.drop (sb+nb)).Perm l:=by
  have:(l.take sa++M++l.drop (sb+nb)).Perm (l.take sa++((l.drop sa).take na++(l.drop sb).take nb)++l.drop (sb+nb)):=(List.Perm.append_left _ hM.pm).append_right _
  rw [←el] at this
  exact this
 have hlen:(l.take sa++M++l.drop (sb+nb)).length=l.length:=hpm.length_eq
 have lo1:∀j,j<sa->(l.take sa++M++l.drop (sb+nb))[j]? = l[j]?:=fun j hj=>by
  rw [qaa,List.getElem?_append_left (by omega),List.getElem?_take,if_pos hj]
 have hi1:∀j,sb+nb<=j->(l.take sa++M++l.drop (sb+nb))[j]? = l[j]?:=fun j hj=>by
  rw [List.getElem?_append_right (by rw [qla,lsa,lM];omega),qla,lsa,lM,List.getElem?_drop]
  congr 1
  omega
 have eM:((l.take sa++M++l.drop (sb+nb)).drop sa).take (na+nb)=M:=by
  rw [qaa,List.drop_append_of_le_length (by omega),List.drop_of_length_le (by omega),List.nil_append,List.take_append_of_le_length (by omega),List.take_of_length_le (by omega)]
 have hle:=Tl.le tq
 refine ⟨rfl,rfl,_,_,S',hpm,?_,?_,fun j hj=>hi1 j (by omega)⟩
 ·have ep:((pd.setIfInBounds i (sa,na+nb,pw)).eraseIdxIfInBounds (i+1)).toList=pre++(sa,na+nb,pw) :: post:=by
   rw [Array.eraseIdxIfInBounds,dif_pos (by rw [Array.size_setIfInBounds];exact hi)]
   rw [Array.toList_eraseIdx,Array.toList_setIfInBounds,e,←hpre]
   rw [List.set_append_right _ _ (qlr _),Nat.sub_self,List.set_cons_zero,List.eraseIdx_append_of_length_le (by omega)]
   rw [show pre.length+1-pre.length=1 by omega]
   rfl
  rw [ep]
  refine Tl.app.mpr ⟨sa,Tl.congr hlen (fun j _ hj=>lo1 j hj) tp,rfl,by show 1<=na+nb;omega,by show sa+(na+nb)<=_;omega,?_,?_⟩
  ·show Ri r (((l.take sa++M++l.drop (sb+nb)).drop sa).take (na+nb))
   rw [eM];exact hM.up
  ·show Tl r _ post (sa+(na+nb)) lo
   rw [show sa+(na+nb)=sa+na+nb by omega]
   exact Tl.congr hlen (fun j hj _=>hi1 j (by omega)) tq
 ·rw [Array.eraseIdxIfInBounds,dif_pos (by rw [Array.size_setIfInBounds];exact hi),Array.size_eraseIdx,Array.size_setIfInBounds]
  omega
end
theorem znz {M:Model}{A:Around}{E:Value->Shared->Prop}{σ α:Type}{m m':StateT σ Sem α}{Q:α->σ->Shared->Prop}{st:σ}{s:Shared}(e:m=m') (h:kasC M A E m' Q st s):kasC M A E m Q st s:=by rw [e];exact h
noncomputable def mrg (size pw:Nat):StateT SortSt Sem (Option Unit × Unit):=forIn [0:size] ((none,()):Option Unit × Unit) fun _ _=>do
 let st ←get
 match (if (pendingOf st).size > 1 then (pendingOf st)[(pendingOf st).size-2]? else none) with
 | some (_,_,older) =>
  if older<=pw then pure (ForInStep.done (none,()))
  else do
   let b ←mergeAt' ((pendingOf st).size-2)
   if (!b)=true then pure (ForInStep.done (some (),())) else pure (ForInStep.yield (none,()))
 | _=>pure (ForInStep.done (none,()))
noncomputable def zia (size lo n:Nat):StateT SortSt Sem (ForInStep (Option Unit × Nat)):=do
 let st ←get
 match (pendingOf st).back? with
 | some (s1,n1,_)=>do
  let b ←mrg size (power' size (2*s1+n1) (2*s1+n1+n1+n) size)
  match b.1 with
  | some r=>pure (ForInStep.done (some r,lo))
  | none=>do
   modify fun s=>setPending s ((pendingOf s).modify ((pendingOf s).size-1) fun x=>(x.1,x.2.1,power' size (2*s1+n1) (2*s1+n1+n1+n) size))
   modify fun s=>setPending s ((pendingOf s).push (lo,n,0))
   pure (ForInStep.yield (none,lo+n))
 | _=>do
  modify fun s=>setPending s ((pendingOf s).push (lo,n,0))
  pure (ForInStep.yield (none,lo+n))
section
variable {r:Nat->Int}{l:List Nat}
theorem Tl.pw:∀{xs ys:List (Nat × Nat × Nat)}{a b:Nat},xs.map (fun x=>(x.1,x.2.1))=ys.map (fun x=>(x.1,x.2.1))->Tl r l xs a b->Tl r l ys a b
 | [],[],a,b,_,h=>h
 | [],y :: ys,a,b,e,_=>by cases e
 | x :: xs,[],a,b,e,_=>by cases e
 | x :: xs,y :: ys,a,b,e,h=>by
  rw [List.map_cons,List.map_cons] at e
  injection e with e1 e2
  have e3:x.1=y.1:=(Prod.mk.inj e1).1
  have e4:x.2.1=y.2.1:=(Prod.mk.inj e1).2
  obtain ⟨h1,h2,h3,h4,h5⟩:=h
  rw [e4] at h2 h3 h4 h5
  exact ⟨e3.symm.trans h1,h2,h3,h4,Tl.pw e2 h5⟩
theorem zud (xs:List (Nat × Nat × Nat)) (f:Nat × Nat × Nat->Nat × Nat × Nat) (hf:∀x,((f x).1,(f x).2.1)=(x.1,x.2.1)):∀i,(xs.modify i f).map (fun x=>(x.1,x.2.1))=xs.map (fun x=>(x.1,x.2.1)):=by
 intro i
 apply List.ext_getElem?
 intro j
 rw [qgm,qgm,List.getElem?_modify]
 cases xs[j]? with
 | none=>rfl
 | some x =>
  by_cases e:i=j
  ·simp [e,hf x]
  ·simp [e]
theorem Ri.pd {p:Array Nat}{lo n:Nat}(u:UpS r p lo n) (h:lo+n<=p.size):Ri r ((p.toList.drop lo).take n):=by
 have hl:p.toList.length=p.size:=by simp
 unfold Ri
 rw [List.pairwise_iff_getElem]
 intro i j hi hj hij
 rw [List.length_take,List.length_drop] at hi hj
 rw [List.getElem_take,List.getElem_take,List.getElem_drop,List.getElem_drop]
 have:=u i j hij (by omega)
 unfold SP.at' at this
 rw [zh8 (by omega),zh8 (by omega)] at this
 exact this
end
section
variable {prog:Program}{w:World}{A:Around}{E:Value->Shared->Prop}{κ:SortKind}{it:Array Keyed}{N:Nat}{r:Nat->Int}{s:Shared}{l0:List Nat}
inductive Lp (κ:SortKind) (it:Array Keyed) (r:Nat->Int) (l0:List Nat) (lo:Nat) (st':SortSt):Prop
 | mk (l:List Nat) (pd:Array (Nat × Nat × Nat)) (S:Sst κ it l pd st') (pm:l.Perm l0) (t:Tl r l pd.toList 0 lo)
inductive Lq (κ:SortKind) (it:Array Keyed) (r:Nat->Int) (l0 l1:List Nat) (lo:Nat) (st':SortSt):Prop
 | mk (l:List Nat) (pd:Array (Nat × Nat × Nat)) (S:Sst κ it l pd st') (pm:l.Perm l0) (t:Tl r l pd.toList 0 lo) (dr:∀i,lo<=i->l[i]? = l1[i]?)
theorem zkz {l:List Nat}(nl:∀x∈l0,x<N) (pm:l.Perm l0):∀x∈l,x<N:=fun x hx=>nl x (pm.mem_iff.mp hx)
theorem zk0 {l:List Nat}(di:l0.Pairwise fun a b=>r a≠r b) (pm:l.Perm l0):l.Pairwise fun a b=>r a≠r b:=(pm.pairwise_iff (fun {a b}(hab:r a≠r b)=>Ne.symm hab)).mpr di
theorem zue (hc:Asks prog w A κ it N r s) (nl:∀x∈l0,x<N) (di:l0.Pairwise fun a b=>r a≠r b) {l:List Nat}{pd:Array (Nat × Nat × Nat)}{st:SortSt}(S:Sst κ it l pd st) (pm:l.Perm l0) {lo size pw:Nat}(t:Tl r l pd.toList 0 lo) :
  kasC (model prog w) A E (mrg size pw) (fun b st' s'=>s' = s/\b.1=none/\Lq κ it r l0 l lo st') st s:=by
 unfold mrg
 refine zcx (s:=s) (fun k (b:Option Unit × Unit) st'=>b.1=none/\Lq κ it r l0 l lo st') ?_ ?_ ⟨rfl,l,pd,S,pm,t,fun _ _=>rfl⟩
 ·rintro k x ⟨b1,b2⟩ st' ⟨hb,⟨l',pd',S',pm',t',dr⟩⟩
  refine kasC_bind (kasC_get ?_)
  rw [S'.p]
  by_cases e1:pd'.size > 1
  ·rw [if_pos e1]
   have e2:pd'[pd'.size-2]? = some (pd'[pd'.size-2]'(by omega)):=by simp [Array.getElem?_eq_getElem]
   rw [e2]
   obtain ⟨x1,x2,older⟩:=pd'[pd'.size-2]'(by omega)
   dsimp only
   by_cases e3:older<=pw
   ·rw [if_pos e3]
    exact kasC_pure ⟨rfl,rfl,rfl,l',pd',S',pm',t',dr⟩
   ·rw [if_neg e3]
    refine kasC_bind (za7 (zny hc (zkz nl pm') (zk0 di pm') S' t' (by omega)) ?_)
    rintro b st2 s2 ⟨rfl,hs,l2,pd2,S2,pm2,t2,z2,dr2⟩
    rw [hs,if_neg (by simp)]
    exact kasC_pure ⟨rfl,rfl,l2,pd2,S2,pm2.trans pm',t2,fun i hi=>(dr2 i hi).trans (dr i hi)⟩
  ·rw [if_neg e1]
   exact kasC_pure ⟨rfl,rfl,rfl,l',pd',S',pm',t',dr⟩
 ·rintro ⟨b1,b2⟩ st' ⟨hb,h⟩
  exact ⟨rfl,hb,h⟩
noncomputable def RfP (κ:SortKind) (it:Array Keyed) (r:Nat->Int) (l0:List Nat) (lo n:Nat) (s:Shared) (x:ForInStep (Option Unit × Nat)) (st':SortSt) (s':Shared):Prop:=s' = s/\match x with
 | .done _=>False
 | .yield b=>b=(none,lo+n)/\Lp κ it r l0 (lo+n) st'
theorem zuf (hc:Asks prog w A κ it N r s) (nl:∀x∈l0,x<N) (di:l0.Pairwise fun a b=>r a≠r b) {l:List Nat}{pd:Array (Nat × Nat × Nat)}{st:SortSt}(S:Sst κ it l pd st) (pm:l.Perm l0) {lo size n:Nat}(t:Tl r l pd.toList 0 lo) (h1:1<=n) (h2:lo+n<=l.length) (hr:Ri r ((l.drop lo).take n)) :
  kasC (model prog w) A E (zia size lo n) (RfP κ it r l0 lo n s) st s:=by
 have push:∀{l':List Nat} {pd':Array (Nat × Nat × Nat)},l'.Perm l0->Tl r l' pd'.toList 0 lo->(∀i,lo<=i->l'[i]? = l[i]?)->Tl r l' (pd'.push (lo,n,0)).toList 0 (lo+n):=fun {l' pd'} pm' t' dr=>by
  rw [Array.toList_push]
  have hlen:l'.length=l.length:=(pm'.trans pm.symm).length_eq
  have e:(l'.drop lo).take n=(l.drop lo).take n:=by
   congr 1
   apply List.ext_getElem?
   intro i
   rw [List.getElem?_drop,List.getElem?_drop]
   exact dr _ (by omega)
  exact Tl.app.mpr ⟨lo,t',rfl,h1,by show lo+n<=_;omega,by show Ri r ((l'.drop lo).take n);rw [e];exact hr,rfl⟩
 unfold zia
 refine kasC_bind (kasC_get ?_)
 rw [S.p]
 cases hb:pd.back? with
 | none =>
  dsimp only
  refine kasC_bind (kasC_modify (kasC_pure ⟨rfl,rfl,l,pd.push (lo,n,0),⟨S.k,S.a,by show (pendingOf st).push _=_;rw [S.p],S.f⟩,pm,push pm t fun _ _=>rfl⟩))
 | some x =>
  obtain ⟨s1,n1,x3⟩:=x
  dsimp only
  refine kasC_bind (za7 (zue hc nl di S pm t) ?_)
  rintro ⟨b1,b2⟩ st' s' ⟨hs,hb,⟨l',pd',S',pm',t',dr⟩⟩
  dsimp only at hb
  subst hb
  rw [hs]
  dsimp only
  refine kasC_bind (kasC_modify (kasC_bind (kasC_modify (kasC_pure ⟨rfl,rfl,?_⟩))))
  refine ⟨l',(pd'.modify (pd'.size-1) fun x=>(x.1,x.2.1,power' size (2*s1+n1) (2*s1+n1+n1+n) size)).push (lo,n,0),⟨S'.k,S'.a,?_,S'.f⟩,pm',push pm' ?_ dr⟩
  ·show ((pendingOf st').modify ((pendingOf st').size-1) _).push (lo,n,0)=_
   rw [S'.p]
  ·rw [Array.toList_modify]
   exact Tl.pw (zud pd'.toList (fun x=>(x.1,x.2.1,power' size (2*s1+n1) (2*s1+n1+n1+n) size)) (fun x=>rfl) (pd'.size-1)).symm t'
inductive Lk (κ:SortKind) (it:Array Keyed) (r:Nat->Int) (l0:List Nat) (m:Nat) (st':SortSt):Prop
 | mk (l:List Nat) (pd:Array (Nat × Nat × Nat)) (S:Sst κ it l pd st') (pm:l.Perm l0) (t:Tl r l pd.toList 0 l0.length) (z:pd.size<=m)
inductive Le (κ:SortKind) (it:Array Keyed) (r:Nat->Int) (l0:List Nat) (st':SortSt):Prop
 | mk (l:List Nat) (pd:Array (Nat × Nat × Nat)) (S:Sst κ it l pd st') (pm:l.Perm l0) (rl:Ri r l)
theorem Tl.count {l:List Nat}:∀{xs:List (Nat × Nat × Nat)}{a b:Nat},Tl r l xs a b->a+xs.length<=b
 | [],a,b,h=>Nat.le_of_eq h
 | x :: xs,a,b,h=>by
  have:=Tl.count h.2.2.2.2
  have:=h.2.1
  rw [List.length_cons]
  omega
theorem Tl.one {l:List Nat}{xs:List (Nat × Nat × Nat)}{b:Nat}(h:Tl r l xs 0 b) (h1:xs.length<=1) (h2:1<=b) (hl:l.length=b):Ri r l:=by
 match xs,h,h1 with
 | [],h,_=>have h:0=b:=h;omega
 | [x],h,_ =>
  obtain ⟨_,_,_,h4,h5⟩:=h
  have h5:0+x.2.1=b:=h5
  rw [List.drop_zero,List.take_of_length_le (by omega)] at h4
  exact h4
 | x :: y :: xs,_,h1=>simp at h1
theorem sortRuns_ok (hc:Asks prog w A κ it N r s) (nl:∀x∈l0,x<N) (di:l0.Pairwise fun a b=>r a≠r b) (hz:1<=l0.length) {st:SortSt}(S:Sst κ it l0 #[] st) {Q:Unit->SortSt->Shared->Prop}(h:∀l st' pd,Sst κ it l pd st'->l.Perm l0->Ri r l->Q () st' s):kasC (model prog w) A E sortRuns' Q st s:=by
 have hsz:(arrOf st).size=l0.length:=by rw [S.a,zgg]
 rw [sortRuns'_eq]
 refine kasC_bind (kasC_get ?_)
 dsimp only
 rw [hsz]
 generalize hmr:minRun' l0.length l0.length 0=mr
 refine kasC_bind (za7 (zcx (s:=s) (fun k (b:Option Unit × Nat) st'=>b.1=none/\Lp κ it r l0 b.2 st'/\b.2<=l0.length/\l0.length<=b.2+k) (Q:=fun (b:Option Unit × Nat) st' s'=>s' = s/\b.1=none/\Lp κ it r l0 l0.length st') ?_ ?_ ⟨rfl,⟨l0,#[],S,.refl _,rfl⟩,Nat.zero_le _,by show _<=0+_;omega⟩) ?_)
 ·rintro k x ⟨b1,lo⟩ st' ⟨hb,⟨l,pd,S',pm,t⟩,hlo,hk⟩
  dsimp only at hb t hlo hk ⊢
  subst hb
  have hlen:=pm.length_eq
  by_cases e1:lo ≥ l0.length
  ·rw [if_pos e1]
   have:lo=l0.length:=by omega
   exact kasC_pure ⟨rfl,rfl,rfl,l,pd,S',pm,by rw [←this];exact t⟩
  rw [if_neg e1]
  have g:Gd N r l.toArray:=⟨by simpa using zkz nl pm,by simpa using zk0 di pm⟩
  have S2:Sst κ it l.toArray.toList pd st':=by simpa using S'
  have go:∀(n:Nat) (p':Array Nat) (st2:SortSt),1<=n->lo+n<=l0.length->Keep lo l0.length l.toArray p'->UpS r p' lo n->Sst κ it p'.toList pd st2->kasC (model prog w) A E (zia l0.length lo n) (fun z st'' s'=>s' = s/\match z with | .done b'=>s=s/\b'.1=none/\Lp κ it r l0 l0.length st'' | .yield b'=>b'.1=none/\Lp κ it r l0 b'.2 st''/\b'.2<=l0.length/\l0.length<=b'.2+k) st2 s:=fun n p' st2 n1 n2 kp u S3=>by
   have ps:=kp.size
   have pml:p'.toList.Perm l:=by simpa using Array.perm_iff_toList_perm.mp kp.pm
   have psz:p'.size=l.length:=by simpa using ps
   have t':Tl r p'.toList pd.toList 0 lo:=Tl.congr pml.length_eq (fun i _ hi=>by
    have:=kp.out i (.inl hi)
    rw [Array.getElem?_toList,this];simp) t
   refine za7 (zuf hc nl di S3 (pml.trans pm) t' n1 (by rw [pml.length_eq];omega) (Ri.pd u (by omega))) ?_
   rintro z st3 s3 ⟨hs3,hz3⟩
   refine ⟨hs3,?_⟩
   cases z with
   | done b=>exact hz3.elim
   | yield b =>
    obtain ⟨rfl,lp⟩:=hz3
    exact ⟨rfl,lp,n2,by show _<=lo+n+k;omega⟩
  refine kasC_bind (zua hc g S2 (lo:=lo) (nrem:=l0.length-lo) (by omega) (by simp;omega) fun n p' st2 n1 n2 kp u S3=>?_)
  rw [show lo+(l0.length-lo)=l0.length by omega] at kp
  have ps:p'.size=l.length:=by simpa using kp.size
  dsimp only
  by_cases e2:n<mr
  ·rw [if_pos e2]
   refine kasC_bind (kasC_lift (wpAny_rule ?_))
   refine kasC_bind (zuc hc (g.perm kp.pm) S3 (lo:=lo) (n:=min (l0.length-lo) mr) (ok:=n) n1 (by omega) (by omega) u fun p2 st3 kp2 u2 S4=>?_)
   rw [if_neg (by simp)]
   refine znz (by
    unfold zia mrg
    congr 1
    funext st5
    cases (pendingOf st5).back? with
    | none=>rfl
    | some x5 =>
     obtain ⟨a5,b5,c5⟩:=x5
     dsimp only
     congr 1
     funext b8
     obtain ⟨b9,b10⟩:=b8
     cases b9 <;> rfl) (za7 (go _ p2 st3 (by omega) (by omega) (kp.trans ⟨kp2.pm,fun x hx=>kp2.out x (by omega)⟩) u2 S4) ?_)
   rintro z st4 s4 ⟨h5,h6⟩
   exact ⟨h5,by cases z <;> exact h6⟩
  ·rw [if_neg e2]
   refine znz (by
    unfold zia mrg
    congr 1
    funext st5
    cases (pendingOf st5).back? with
    | none=>rfl
    | some x5 =>
     obtain ⟨a5,b5,c5⟩:=x5
     dsimp only
     congr 1
     funext b8
     obtain ⟨b9,b10⟩:=b8
     cases b9 <;> rfl) (za7 (go n p' st2 n1 (by omega) kp u S3) ?_)
   rintro z st4 s4 ⟨h5,h6⟩
   exact ⟨h5,by cases z <;> exact h6⟩
 ·rintro ⟨b1,lo⟩ st' ⟨hb,⟨l,pd,S',pm,t⟩,hlo,hk⟩
  dsimp only at hb t hlo hk
  have:lo=l0.length:=by omega
  exact ⟨rfl,hb,l,pd,S',pm,by rw [←this];exact t⟩
 rintro ⟨b1,lo⟩ st' s' ⟨hs,hb,⟨l,pd,S',pm,t⟩⟩
 dsimp only at hb
 subst hb
 rw [hs]
 dsimp only
 refine kasC_bind (za7 (zcx (s:=s) (fun k (b:Option Unit × Unit) st'=>b.1=none/\Lk κ it r l0 (k+1) st') (Q:=fun (b:Option Unit × Unit) st' s'=>s' = s/\b.1=none/\Le κ it r l0 st') ?_ ?_ ⟨rfl,l,pd,S',pm,t,by have h8:=Tl.count t;rw [Array.length_toList] at h8;omega⟩) ?_)
 ·rintro k x ⟨b1,b2⟩ st' ⟨hb,⟨l,pd,S',pm,t,hsz2⟩⟩
  dsimp only at hb
  refine kasC_bind (kasC_get ?_)
  rw [S'.p]
  by_cases e1:pd.size<=1
  ·rw [if_pos e1]
   exact kasC_pure ⟨rfl,rfl,rfl,l,pd,S',pm,Tl.one t (by simpa using e1) (by omega) pm.length_eq⟩
  ·rw [if_neg e1]
   have key:∀i,i+1<pd.size->kasC (model prog w) A E (do
     let b ←mergeAt' i
     if (!b)=true then pure (ForInStep.done ((some (),()):Option Unit × Unit)) else pure (ForInStep.yield (none,()))) (fun z st'' s'=>s' = s/\match z with | .done b'=>s=s/\b'.1=none/\Le κ it r l0 st'' | .yield b'=>b'.1=none/\Lk κ it r l0 (k+1) st'') st' s:=fun i hi=>by
    refine kasC_bind (za7 (zny hc (zkz nl pm) (zk0 di pm) S' t hi) ?_)
    rintro b st2 s2 ⟨rfl,hs,l2,pd2,S2,pm2,t2,z2,dr2⟩
    rw [hs,if_neg (by simp)]
    exact kasC_pure ⟨rfl,rfl,l2,pd2,S2,pm2.trans pm,t2,by omega⟩
   refine za7 (key _ ?_) ?_
   ·have h9:∀(b:Bool),(if b=true then pd.size-2-1 else pd.size-2)+1<pd.size:=fun b=>by cases b <;> simp <;> omega
    exact h9 _
   ·rintro z st4 s4 ⟨h5,h6⟩
    exact ⟨h5,by cases z <;> exact h6⟩
 ·rintro ⟨b1,b2⟩ st' ⟨hb,⟨l,pd,S',pm,t,hsz2⟩⟩
  exact ⟨rfl,hb,l,pd,S',pm,Tl.one t (by simpa using hsz2) (by omega) pm.length_eq⟩
 rintro ⟨b1,b2⟩ st' s' ⟨hs,hb,⟨l,pd,S',pm,rl⟩⟩
 dsimp only at hb
 subst hb
 rw [hs]
 exact kasC_pure (h l st' pd S' pm rl)
end
end SG
namespace SP
open PySem PySem.W PyProof.Rows PySem.Calls
noncomputable abbrev Pr:=Int × Int
theorem gD {α:Type}{l:List α}{i:Nat}{d:α}(h:i<l.length):l.getD i d=l[i]:=by simp [h]
noncomputable def plt (p q:Pr):Bool:=decide (p.1<q.1) || (decide (p.1=q.1) && decide (p.2<q.2))
theorem zet (p q:Pr):plt p q=true↔p.1<q.1∨(p.1=q.1/\p.2<q.2):=by unfold plt;simp
theorem zk1 (p:Pr):plt p p=false:=by
 cases h:plt p p
 ·rfl
 ·have:=(zet p p).mp h;omega
theorem zn0 {p q r:Pr}(h1:plt p q=true) (h2:plt q r=true):plt p r=true:=by
 rw [zet] at *;omega
theorem zk2 (p q:Pr) (h:p≠q):plt p q=true∨plt q p=true:=by
 rw [zet,zet]
 by_cases h1:p.1=q.1
 ·by_cases h2:p.2=q.2
  ·exact absurd (Prod.ext h1 h2) h
  ·omega
 ·omega
noncomputable def IsP (h:Heap) (v:Value) (p:Pr):Prop:=∃a o t1 t2 n,v=.ref a/\h.get? a=some o/\o.cls=.type "tuple"/\o.data=.seq #[.int p.1 t1,.int p.2 t2] n
theorem IsP.kept {h h':Heap}{v:Value}{p:Pr}(x:IsP h v p) (k:∀b o,o.cls=.type "tuple"->h.get? b=some o->h'.get? b=some o):IsP h' v p :=
 let ⟨a,o,t1,t2,n,e,ho,c,d⟩:=x;⟨a,o,t1,t2,n,e,k a o c ho,c,d⟩
inductive TR (R:Value->Pr->Prop):List Value->List Pr->Prop where
 | nil:TR R [] []
 | cons {v:Value} {p:Pr} {vs:List Value} {ps:List Pr}:R v p->TR R vs ps->TR R (v :: vs) (p :: ps)
noncomputable abbrev Tp (h:Heap):=TR (IsP h)
theorem TR.length {R:Value->Pr->Prop}{vs:List Value}{ps:List Pr}(t:TR R vs ps):vs.length=ps.length:=by
 induction t with
 | nil=>rfl
 | cons _ _ ih=>simp [ih]
theorem TR.imp {R R':Value->Pr->Prop}{vs:List Value}{ps:List Pr}(t:TR R vs ps) (k:∀v p,R v p->R' v p):TR R' vs ps:=by
 induction t with
 | nil=>exact .nil
 | cons x _ ih=>exact .cons (k _ _ x) ih
theorem TR.get {R:Value->Pr->Prop}{vs:List Value}{ps:List Pr}(t:TR R vs ps):∀{i:Nat},i<ps.length->R (vs.getD i .none) (ps.getD i (0,0)):=by
 induction t with
 | nil=>intro i hi;simp at hi
 | cons x _ ih =>
  intro i hi
  cases i with
  | zero=>simpa using x
  | succ j=>simpa using ih (i:=j) (by simpa using hi)
theorem tups {h:Heap}{vs:List Value}{ps:List Pr}(t:Tp h vs ps):∃fs:List Value,KatTups h vs fs/\fs.length=ps.length/\∀v∈fs,∃i k,v=.int i k:=by
 induction t with
 | nil=>exact ⟨[],.nil,rfl,fun v hv=>by simp at hv⟩
 | @cons v p vs ps x _ ih =>
  obtain ⟨fs,h1,h2,h3⟩:=ih
  obtain ⟨a,o,t1,t2,n,rfl,ho,c,d⟩:=x
  refine ⟨.int p.1 t1 :: fs,KatTups.cons ho c d rfl h1,by simp [h2],fun v hv=>?_⟩
  rcases List.mem_cons.mp hv with e|hv
  ·exact ⟨_,_,e⟩
  ·exact h3 v hv
section
variable {prog:Program}{w:World}{A:Around}{E:Value->Shared->Prop}{s:Shared}
theorem zug {vs:List Value}{ps:List Pr}{Q:SortKind->Shared->Prop}(t:Tp s.heap vs ps) (hne:0<ps.length) (h:Q (tuples' true) s):wpAny (model prog w) A (keyKind' vs.toArray) Q E s:=by
 obtain ⟨fs,h1,h2,h3⟩:=tups t
 refine kat_kind (T:=.type "int") h1 (by omega) (fun v hv=>?_) rfl h
 obtain ⟨i,k,rfl⟩:=h3 v hv
 intro A Q E s _ q
 exact wpAny_pure q
theorem zuh {u v:Value}{p q:Pr}{Q:Bool->Shared->Prop}(hu:IsP s.heap u p) (hv:IsP s.heap v q) (h:Q (plt p q) s):wpAny (model prog w) A (keyLt' (tuples' true) u v) Q E s:=by
 obtain ⟨a,o,t1,t2,n,rfl,ho,c,d⟩:=hu
 obtain ⟨b,o',u1,u2,m,rfl,ho',c',d'⟩:=hv
 refine kat_lt ho d ho' d' ?_
 show KatLex prog w A true _ Q [(.int p.1 t1,.int q.1 u1),(.int p.2 t2,.int q.2 u2)] 0 s
 refine kat_cons (wpAny_eqBool_int ?_)
 by_cases e1:p.1=q.1
 ·rw [show (p.1 == q.1)=true by simpa using e1]
  refine kat_yes (kat_cons (wpAny_eqBool_int ?_))
  by_cases e2:p.2=q.2
  ·rw [show (p.2 == q.2)=true by simpa using e2]
   refine kat_yes (kat_nil ?_)
   have:plt p q=false:=by rw [show p=q from Prod.ext e1 e2];exact zk1 q
   rw [this] at h
   exact h
  ·rw [show (p.2 == q.2)=false by simpa using e2]
   refine kat_no ?_
   show wpAny (model prog w) A (oneLt' false _ _) Q _ s
   refine kat_one _ _ (wpAny_lt_int ?_)
   have:plt p q=decide (p.2<q.2):=by unfold plt;simp [e1]
   rw [this] at h
   exact h
 ·rw [show (p.1 == q.1)=false by simpa using e1]
  refine kat_no ?_
  show wpAny (model prog w) A (oneLt' true _ _) Q _ s
  refine oneLt_int ?_
  have:plt p q=decide (p.1<q.1):=by unfold plt;simp [e1]
  rw [this] at h
  exact h
end
noncomputable def rk (ps:List Pr) (i:Nat):Int:=(ps.countP (fun q=>plt q (ps.getD i (0,0))):Nat)
theorem zn1 {ps:List Pr}{p q:Pr}(hp:p∈ps) (h:plt p q=true):ps.countP (fun z=>plt z p)<ps.countP (fun z=>plt z q):=by
 obtain ⟨l,r,rfl⟩:=List.append_of_mem hp
 have m:∀k:List Pr,k.countP (fun z=>plt z p)<=k.countP (fun z=>plt z q):=fun k=>List.countP_mono_left fun z _ hz=>zn0 hz h
 have m1:=m l
 have m2:=m r
 simp only [List.countP_append,List.countP_cons,zk1,h]
 simp only [Bool.false_eq_true,if_false,if_true]
 omega
theorem zja {ps:List Pr}{i j:Nat}(hi:i<ps.length) (hj:j<ps.length):lt (rk ps) i j=plt (ps.getD i (0,0)) (ps.getD j (0,0)):=by
 have mi:ps.getD i (0,0)∈ps:=by rw [gD hi];exact qem hi
 have mj:ps.getD j (0,0)∈ps:=by rw [gD hj];exact qem hj
 unfold lt rk
 cases h:plt (ps.getD i (0,0)) (ps.getD j (0,0)) with
 | true=>have:=zn1 mi h;exact decide_eq_true (by omega)
 | false =>
  refine decide_eq_false ?_
  by_cases e:ps.getD i (0,0)=ps.getD j (0,0)
  ·rw [e];omega
  ·rcases zk2 _ _ e with z|z
   ·rw [z] at h;cases h
   ·have:=zn1 mj z;omega
theorem zui {ps:List Pr}(nd:ps.Nodup):Inj (rk ps) ps.length:=fun i j hi hj e=>by
 have h1:=zja hi hj
 have h2:=zja hj hi
 unfold lt at h1 h2
 rw [e] at h1 h2
 simp only [Int.lt_irrefl,decide_false] at h1 h2
 have:ps.getD i (0,0)=ps.getD j (0,0):=by
  by_cases z:ps.getD i (0,0)=ps.getD j (0,0)
  ·exact z
  ·rcases zk2 _ _ z with y|y
   ·rw [y] at h1;cases h1
   ·rw [y] at h2;cases h2
 rw [gD hi,gD hj] at this
 exact (List.getElem_inj nd).mp this
noncomputable def ple (p q:Pr):Bool:=!plt q p
noncomputable def sortP (ps:List Pr):List Pr:=ps.mergeSort ple
theorem zuj (a b c:Pr) (h1:ple a b=true) (h2:ple b c=true):ple a c=true:=by
 unfold ple at *
 simp only [Bool.not_eq_true'] at *
 have e1:=zet b a
 have e2:=zet c b
 have e3:=zet c a
 rw [h1] at e1;rw [h2] at e2
 cases h:plt c a
 ·rfl
 ·rw [h] at e3
  have e1:¬(b.1<a.1∨(b.1=a.1/\b.2<a.2)):=fun z=>Bool.false_ne_true (e1.mpr z)
  have e2:¬(c.1<b.1∨(c.1=b.1/\c.2<b.2)):=fun z=>Bool.false_ne_true (e2.mpr z)
  have e3:=e3.mp rfl
  omega
theorem zuk (a b:Pr):(ple a b || ple b a)=true:=by
 unfold ple
 have e1:=zet b a
 have e2:=zet a b
 cases h1:plt b a
 ·rfl
 ·cases h2:plt a b
  ·rfl
  ·exfalso;have:=e1.mp h1;have:=e2.mp h2;omega
theorem zul (a b:Pr) (h1:ple a b=true) (h2:ple b a=true):a=b:=by
 unfold ple at *
 simp only [Bool.not_eq_true'] at *
 by_cases e:a=b
 ·exact e
 ·rcases zk2 a b e with z|z
  ·rw [z] at h2;cases h2
  ·rw [z] at h1;cases h1
theorem zum (l:List Pr):(sortP l).Pairwise fun a b=>ple a b=true:=List.pairwise_mergeSort zuj zuk l
theorem sortP_perm (l:List Pr):(sortP l).Perm l:=List.mergeSort_perm l ple
theorem zn2 {a l:List Pr}(h:a.Perm l) (s:a.Pairwise fun x y=>ple x y=true):a=sortP l :=
 List.Perm.eq_of_pairwise (fun a b _ _=>zul a b) s (zum l) (h.trans (sortP_perm l).symm)
theorem zun {ps:List Pr}(nd:ps.Nodup) {q:Array Nat}(hp:Pm ps.length q) (u:Up (rk ps) q ps.length):q.toList.map (fun i=>ps.getD i (0,0))=sortP ps:=by
 have hq:=Array.perm_iff_toList_perm.mp hp
 refine zn2 ?_ ?_
 ·have h1:=hq.map (fun i=>ps.getD i (0,0))
  have e:(List.range ps.length).map (fun i=>ps.getD i (0,0))=ps:=by
   apply List.ext_getElem
   ·simp
   ·intro i h1 h2
    simp [h2]
  have e2:((List.range ps.length).toArray).toList=List.range ps.length:=by simp
  rw [e2] at h1
  rw [e] at h1
  exact h1
 ·rw [List.pairwise_map,List.pairwise_iff_getElem]
  intro i j hi hj hij
  have hs:=hp.size
  have hi':i<ps.length:=by simpa [hs] using hi
  have hj':j<ps.length:=by simpa [hs] using hj
  have h1:=u i j hij hj'
  have g:∀k (hk:k<q.toList.length),q.toList[k]=q.getD k 0:=fun k hk=>by
   have hk:k<q.size:=by simpa using hk
   simp [hk]
  rw [g,g]
  have l1:=zja (ps:=ps) (hp.lt hi') (hp.lt hj')
  have l2:lt (rk ps) (q.getD i 0) (q.getD j 0)=true:=decide_eq_true h1
  rw [l2] at l1
  unfold ple
  cases h:plt (ps.getD (q.getD j 0) (0,0)) (ps.getD (q.getD i 0) (0,0))
  ·rfl
  ·have:=zn0 l1.symm h;rw [zk1] at this;cases this
section
variable {prog:Program}{w:World}{A:Around}{E:Value->Shared->Prop}{s:Shared}
end
section
variable {prog:Program}{w:World}{A:Around}{E:Value->Shared->Prop}{s:Shared}{κ:SortKind}{r:Nat->Int}{ks vs:List Value}
theorem zuo {l:List Nat}(h:SG.Ri r l):Up r l.toArray l.length:=fun i j hij hj=>by
 rw [SG.at_list (by omega),SG.at_list hj]
 exact h.get hij hj
theorem zup {Q:SortSt->Shared->Prop}(hl:ks.length=vs.length) (h1:1<=vs.length) (hr:Inj r vs.length) (hc:SG.Asks prog w A κ (ks.toArray.zip vs.toArray) vs.length r s)
  (h:∀q st',Pm vs.length q->Up r q vs.length->arrOf st' = q.map (kas_item (ks.toArray.zip vs.toArray))->failedOf st' = none->Q st' s) :
  wpAny (model prog w) A ((sortRuns').run (SortSt.mk' κ (ks.toArray.zip vs.toArray) #[] 7 none)) (fun z s'=>Q z.2 s') E s:=by
 have e:=kas_range (ks.toArray.zip vs.toArray)
 rw [show (ks.toArray.zip vs.toArray).size=vs.length by simp [hl]] at e
 have key:=SG.sortRuns_ok (E:=E) (l0:=List.range vs.length) (st:=SortSt.mk' κ (ks.toArray.zip vs.toArray) #[] 7 none) (Q:=fun _ st' s'=>Q st' s') hc (fun x hx=>List.mem_range.mp hx) ?_ (by rw [List.length_range];exact h1) ⟨rfl,?_,rfl,rfl⟩ fun l st' pd S pm rl=>?_
 ·exact key
 ·rw [List.pairwise_iff_getElem]
  intro i j hi hj hij e2
  rw [List.getElem_range,List.getElem_range] at e2
  rw [List.length_range] at hi hj
  have:=hr i j hi hj e2
  omega
 ·show ks.toArray.zip vs.toArray=_
  rw [←SG.oA_map]
  exact e.symm
 ·have hlen:l.length=vs.length:=by rw [pm.length_eq,List.length_range]
  refine h l.toArray st' ?_ ?_ ?_ S.f
  ·exact Array.perm_iff_toList_perm.mpr (by simpa using pm)
  ·rw [←hlen];exact zuo rl
  ·rw [S.a,SG.oA_map]
end
section
variable {prog:Program}{w:World}{A:Around}{E:Value->Shared->Prop}{s:Shared}
theorem zuq {a:Addr}{vs:List Value}{ps:List Pr}{n:Nat}{P:PySem.Fin->Shared->Prop}(ho:s.heap.get? a=some (seqObj "list" vs.toArray n)) (t:Tp s.heap vs ps) {R0:Value->Pr->Prop} (t0:TR R0 vs ps) (nd:ps.Nodup) (h64:ps.length<1000)
  (h:∀out:List Value,TR R0 out (sortP ps)->P (.done (.ret .none)) { s with heap:=sortedHeap s.heap a vs out.toArray }):wpAny (model prog w) A (Builtin.«list.sort» ⟨[.ref a],[]⟩) P E s:=by
 have hl:=t.length
 have old:∀(f:Array Value->Array Value) (b:Addr) (o:Obj),o.cls=.type "tuple"->s.heap.get? b=some o->(((s.heap.update a (Obj.mapSeq f)).push (seqObj "tuple" vs.toArray 0)).push (seqObj "list" #[] 0)).get? b=some o:=fun f b o c e=>by
  have hb:b≠a:=fun z=>by rw [z,ho] at e;cases e;injection c with c;exact absurd c (by decide)
  exact qps _ (qps _ ((Heap.get?_update_other _ _ (Ne.symm hb)).trans e))
 obtain ⟨c1,g1⟩:∃c1,(s.heap.update a (Obj.mapSeq fun _=>(#[]:Array Value))).get? a=some (seqObj "list" #[] c1):=⟨_,get?_update_seq ho fun _=>#[]⟩
 have g3:(((s.heap.update a (Obj.mapSeq fun _=>(#[]:Array Value))).push (seqObj "tuple" vs.toArray 0)).push (seqObj "list" #[] 0)).get? a=some (seqObj "list" #[] c1):=qps _ (qps _ g1)
 have fits:∀k,k<1000->k<=sizeLine:=fun k hk=>by rw [sizeLine_eq];omega
 rw [list_sort_plain]
 have hA:vs.toArray.size<=sizeLine:=by rw [List.size_toArray];exact fits _ (by omega)
 have hC:vs.toArray.toList.length<=sizeLine:=fits _ (by simpa [hl] using h64)
 refine wpAny_bind (listItems_at ho rfl (wpAny_bind (listUpdate_at ho rfl ?_ hA (Nat.zero_le _))))
 refine wpAny_bind (seqEpoch_at g1 rfl (wpAny_bind (wpAny_newTuple ?_ hC)))
 refine wpAny_bind (wpAny_newList (wpAny_holding ?_) (Nat.zero_le _))
 show wpAny (model prog w) A _ P E { s with heap:=((s.heap.update a (Obj.mapSeq fun _=>(#[]:Array Value))).push (seqObj "tuple" vs.toArray 0)).push (seqObj "list" #[] 0) }
 dsimp only
 have done:∀(out:Array Value) (st:SortSt),(arrOf st).map (·.2)=out->failedOf st=none->out.size=vs.length->TR R0 out.toList (sortP ps) ->
   wpAny (model prog w) A (do
    let touched:=(←seqEpoch a) != c1
    Builtin.List.listUpdate (.ref a) fun _=>(arrOf st).map (·.2)
    if let some e:=failedOf st then rule "list.sort.comparison-raised";throw e
    if touched then rule "list.sort.modified";raiseError "ValueError" "list modified during sort"
    ret .none) P E { s with heap:=((s.heap.update a (Obj.mapSeq fun _=>(#[]:Array Value))).push (seqObj "tuple" vs.toArray 0)).push (seqObj "list" #[] 0) }:=fun out st e1 e2 e3 e4=>by
  rw [e1,e2]
  refine wpAny_bind (seqEpoch_at g3 rfl (wpAny_bind (listUpdate_at g3 rfl ?_ (Nat.zero_le _) (by show out.size<=_;have:=fits vs.length (by omega);omega))))
  simp only [bne_self_eq_false,Bool.false_eq_true,if_false]
  have:=h out.toList e4
  rw [Array.toArray_toList] at this
  exact wpAny_pure this
 by_cases h2:vs.toArray.size<2
 ·rw [if_pos h2,if_pos h2]
  refine wpAny_bind (wpAny_pure ?_)
  rw [StateT.run_pure]
  refine wpAny_bind (wpAny_pure ?_)
  refine done vs.toArray (SortSt.mk' general' (vs.toArray.zip vs.toArray) #[] 7 none) ?_ rfl (by simp) ?_
  ·apply Array.toList_inj.mp
   show ((vs.toArray.zip vs.toArray).map (·.2)).toList=vs
   rw [Array.toList_map]
   have:=pairsOf_toList vs
   unfold pairsOf at this
   rw [this,List.map_snd_zip (qlr _)]
  ·have:sortP ps=ps:=by
    refine (zn2 (List.Perm.refl _) ?_).symm
    rw [List.size_toArray] at h2
    rw [List.pairwise_iff_getElem]
    intro i j hi hj hij
    omega
   rw [this]
   exact t0
 ·rw [if_neg h2,if_neg h2]
  rw [List.size_toArray] at h2
  have t':Tp (((s.heap.update a (Obj.mapSeq fun _=>(#[]:Array Value))).push (seqObj "tuple" vs.toArray 0)).push (seqObj "list" #[] 0)) vs ps:=t.imp fun v p x=>x.kept (old _)
  refine wpAny_bind (zug (s:={ s with heap:=_ }) t' (by omega) ?_)
  refine wpAny_bind (wpAny_mono (zup (ks:=vs) (vs:=vs) (κ:=tuples' true) (E:=E) (r:=rk ps) (s:={ s with heap:=((s.heap.update a (Obj.mapSeq fun _=>(#[]:Array Value))).push (seqObj "tuple" vs.toArray 0)).push (seqObj "list" #[] 0) }) (Q:=fun st s'=>s' = { s with heap:=((s.heap.update a (Obj.mapSeq fun _=>(#[]:Array Value))).push (seqObj "tuple" vs.toArray 0)).push (seqObj "list" #[] 0) }/\∃q:Array Nat,Pm ps.length q/\Up (rk ps) q ps.length/\arrOf st=q.map (kas_item (vs.toArray.zip vs.toArray))/\failedOf st=none) rfl (by omega) (by rw [hl];exact zui nd) ?_ (fun q st' a1 a2 a3 a4=>⟨rfl,q,by rw [←hl];exact a1,by rw [←hl];exact a2,a3,a4⟩)) ?_ fun _ _ e=>e)
  ·intro i j C hi hj hC
   rw [hl] at hi hj
   rw [←kat_ask_eq (ks:=vs) (vs:=vs) rfl]
   refine zuh (p:=ps.getD i (0,0)) (q:=ps.getD j (0,0)) (t'.get hi) (t'.get hj) ?_
   rw [←zja hi hj]
   exact hC
  ·rintro ⟨⟨⟩,st⟩ s' ⟨rfl,q,hq,hu,ha,hf⟩
   have hout:=kat_snds (ks:=vs) (vs:=vs) rfl ha
   refine done _ st hout hf (by rw [List.size_toArray,qlm,Array.length_toList,hq.size,hl]) ?_
   have eo:=zun nd hq hu
   rw [←eo]
   show TR R0 (q.toList.map fun i=>vs.getD i Value.none) _
   have gen:∀l:List Nat,(∀i∈l,i<ps.length)->TR R0 (l.map fun i=>vs.getD i Value.none) (l.map fun i=>ps.getD i (0,0)):=fun l=>by
    induction l with
    | nil=>intro _;exact .nil
    | cons i l ih=>intro hm;exact   .cons (t0.get (hm i (by simp))) (ih fun k hk=>hm k (by simp [hk]))
   refine gen _ fun i hi=>?_
   have:=(Array.perm_iff_toList_perm.mp hq).mem_iff (a:=i)
   simpa using this.mp hi
end
end SP
namespace L2
open PySem PySem.Spec PyProof.Rows
noncomputable abbrev Key:=Sum Int Str
noncomputable def zn3:Key->Value->Bool
 | .inl k,v=>Value.isInt k v
 | .inr x,v=>Value.isStrOf x v
noncomputable def zur (w:World):Key->Int
 | .inl k=>hashInt k
 | .inr x=>hashStr w x
theorem zeu:∀{k:Key}{v:Value},zn3 k v=true->(∃i t,k=Sum.inl i/\v=Value.int i t)∨(∃x t,k=Sum.inr x/\v=Value.str x t)
 | .inl i,v,h=>by
  obtain ⟨t,e⟩:=Value.isInt_shape (k:=i) (v:=v) h
  exact .inl ⟨i,t,rfl,e⟩
 | .inr x,v,h=>by
  obtain ⟨t,e⟩:=Value.isStrOf_shape (x:=x) (v:=v) h
  exact .inr ⟨x,t,rfl,e⟩
theorem zus (a b:Int):decide ((Sum.inl a:Key)=Sum.inl b)=(a == b):=by
 by_cases e:a=b
 ·subst e;simp
 ·have h:¬(Sum.inl a:Key)=Sum.inl b:=fun q=>e (Sum.inl.inj q)
  rw [decide_eq_false h]
  exact (beq_eq_false_iff_ne.mpr e).symm
theorem zut (a b:Str):decide ((Sum.inr a:Key)=Sum.inr b)=decide (a=b):=by
 by_cases e:a=b
 ·subst e;simp
 ·have h:¬(Sum.inr a:Key)=Sum.inr b:=fun q=>e (Sum.inr.inj q)
  rw [decide_eq_false h,decide_eq_false e]
theorem zuu (a:Int) (b:Str):decide ((Sum.inl a:Key)=Sum.inr b)=false:=decide_eq_false (fun q=>nomatch q)
theorem zuv (a:Str) (b:Int):decide ((Sum.inr a:Key)=Sum.inl b)=false:=decide_eq_false (fun q=>nomatch q)
noncomputable def zn4 (prog:Program) (w:World):PySem.KeyKind prog w Key where
 is:=zn3
 hash:=zur w
 inj:=fun v a b ha hb=>by
  rcases zeu ha with ⟨i,t,rfl,rfl⟩|⟨x,t,rfl,rfl⟩
  ·rcases zeu hb with ⟨j,u,rfl,e⟩|⟨y,u,rfl,e⟩
   ·injection e with e1 _;rw [e1]
   ·exact nomatch e
  ·rcases zeu hb with ⟨j,u,rfl,e⟩|⟨y,u,rfl,e⟩
   ·exact nomatch e
   ·injection e with e1 _;rw [e1]
 byValue:=fun k v h=>by
  rcases zeu h with ⟨i,t,rfl,rfl⟩|⟨x,t,rfl,rfl⟩ <;> rfl
 pyHash:=fun hv h=>by
  rcases zeu hv with ⟨i,t,rfl,rfl⟩|⟨x,t,rfl,rfl⟩
  ·exact wpAny_pyHash_int h
  ·exact wpAny_pyHash_str h
 eqBool:=fun hu hv h=>by
  rcases zeu hu with ⟨i,t,rfl,rfl⟩|⟨x,t,rfl,rfl⟩
  ·rcases zeu hv with ⟨j,u,rfl,rfl⟩|⟨y,u,rfl,rfl⟩
   ·rw [zus] at h;exact wpAny_eqBool_int h
   ·rw [zuu] at h;exact SeqAt.EqAt.int_str i t y u _ _ _ _ h
  ·rcases zeu hv with ⟨j,u,rfl,rfl⟩|⟨y,u,rfl,rfl⟩
   ·rw [zuv] at h;exact SeqAt.EqAt.str_int x t j u _ _ _ _ h
   ·rw [zut] at h;exact wpAny_eqBool_str h
 «strs»:=fun k x t v h=>by
  rcases zeu h with ⟨i,u,rfl,e⟩|⟨y,u,rfl,e⟩
  ·exact nomatch e
  ·injection e with e1 _
   subst e1
   cases v <;> rfl
inductive V where
 | non|bl (b:Bool)|int (i:Int)|str (x:Str)|byt (b:Array UInt8)|flt (b:UInt64)|ref (a:Addr)|ty (n:String)
 deriving DecidableEq
noncomputable def RelV:V->Value->Prop
 | .non,u=>u=Value.none
 | .bl b,u=>u=Value.bool b
 | .int i,u=>∃t,u=Value.int i t
 | .str x,u=>∃t,u=Value.str x t
 | .byt b,u=>∃t,u=Value.bytes b t
 | .flt b,u=>∃t,u=Value.float b t
 | .ref a,u=>u=Value.ref a
 | .ty n,u=>u=Value.type n
noncomputable abbrev Vals:List V->List Value->Prop:=Paired RelV
theorem Vals.length {xs:List V}{us:List Value}(r:Vals xs us):xs.length=us.length:=Paired.length r
theorem Vals.get:∀{xs:List V}{us:List Value}{i:Nat}{x:V},Vals xs us->xs[i]? = some x->∃u,us[i]? = some u/\RelV x u
 | _,_,_,_,.nil,e=>by simp at e
 | _,_,0,_,.cons r _,e=>by simp at e;subst e;exact ⟨_,rfl,r⟩
 | _,_,i+1,x,.cons _ t,e=>by
  obtain ⟨u,h1,h2⟩:=Vals.get (i:=i) (x:=x) t (by simpa using e)
  exact ⟨u,by simpa using h1,h2⟩
theorem Vals.set {x:V}{u:Value}(r:RelV x u):∀{xs:List V}{us:List Value}(i:Nat),Vals xs us->Vals (xs.set i x) (us.set i u)
 | _,_,_,.nil=>.nil
 | _,_,0,.cons _ t=>.cons r t
 | _,_,i+1,.cons q t=>.cons q (Vals.set r i t)
theorem Vals.append:∀{xs ys:List V}{us ws:List Value},Vals xs us->Vals ys ws->Vals (xs++ys) (us++ws)
 | _,_,_,_,.nil,s=>s
 | _,_,_,_,.cons r t,s=>.cons r (Vals.append t s)
theorem Vals.take:∀{xs:List V}{us:List Value}(n:Nat),Vals xs us->Vals (xs.take n) (us.take n)
 | _,_,0,_=>.nil
 | _,_,_+1,.nil=>.nil
 | _,_,n+1,.cons r t=>.cons r (Vals.take n t)
theorem Vals.drop:∀{xs:List V}{us:List Value}(n:Nat),Vals xs us->Vals (xs.drop n) (us.drop n)
 | _,_,0,r=>r
 | _,_,_+1,.nil=>.nil
 | _,_,n+1,.cons _ t=>Vals.drop n t
noncomputable def RelO:Option V->Option Value->Prop
 | some v,some u=>RelV v u
 | none,none=>True
 | _,_=>False
noncomputable def KV {κ:Type}:List (κ × V)->List (κ × Value)->Prop:=Paired fun (p:κ × V) (q:κ × Value)=>p.1=q.1/\RelV p.2 q.2
noncomputable def kV:Key->V
 | .inl i=>.int i
 | .inr x=>.str x
inductive HO where
 | lst (xs:List V)
 | tup (xs:List V)
 | dK (kvs:List (Key × V))|dT (kvs:List (List Key × V))
 | set (S:Int->Bool) (n:Nat)
 | ins (C dx:Addr) (fs:List (Str × V))
 | own (x:Addr)
 | xd (fs:List (Str × V))
 | met (f x:Addr)
 | rng (lo hi:Int)
 | frz (o:Obj) (u:HO)
 | tbl (ps:Array Value)
 | ext (φ:Heap->Prop)
noncomputable abbrev Hp:=Addr->Option HO
noncomputable def upd (H:Hp) (a:Addr) (o:HO):Hp:=fun b=>if b=a then some o else H b
theorem zcg {H:Hp}{a:Addr}{o:HO}:upd H a o a=some o:=by unfold upd;rw [if_pos rfl]
theorem zar {H:Hp}{a b:Addr}{o:HO}(h:b≠a):upd H a o b=H b:=by unfold upd;rw [if_neg h]
theorem zgh {H:Hp}{a b:Addr}{o u:HO}(h:H a=some o) (h':H b=some u) (d:o≠u):a≠b:=by
 intro e;subst e;rw [h] at h';exact d (qoi h')
theorem zbc {H:Hp}{a b:Addr}{o:HO}(h:H a=some o) (h':H b=none):a≠b:=by
 intro e;subst e;rw [h] at h';cases h'
section
variable (P:Program) (w:World)
noncomputable def ObjOk (H:Hp) (h:Heap) (a:Addr):HO->Prop
 | .lst xs=>xs.length<=sizeLine/\∃(its:List Value) (n:Nat),Vals xs its/\h.get? a=some { cls:=.type "list",data:=.seq its.toArray n }
 | .tup xs=>xs.length<=sizeLine/\∃its:List Value,Vals xs its/\IsTup h a its.toArray
 | .dK kvs=>kvs.length<=sizeLine/\(a == sysModules)=false/\∃vs,KV kvs vs/\h.DictOf (zn4 P w) a vs
 | .dT kvs=>kvs.length<=sizeLine/\(a == sysModules)=false/\∃xs:List (List Key × Addr × Value),
   Paired (fun (p:List Key × V) (q:List Key × Addr × Value)=>p.1=q.1/\H q.2.1=some (.tup (p.1.map kV))/\RelV p.2 q.2.2) kvs xs /\
   ∃o es ep,h.get? a=some o/\o.ExactDict/\o.data=.dict es ep/\es.toList=xs.map (entryOfKey (tupleKind (zn4 P w)))/\(xs.map (·.1)).Nodup
 | .set S n=>h.SetOf (intKind P w) a S n
 | .ins C dx fs=>H dx=some (.own a)/\fs.length<=1000/\dx≠a/\h.get? a=some (PySem.W.instObj C dx) /\
   ∃mA,h.Ns1 dx mA/\(∀f,RelO (fs.lookup f) (mA f))/\PySem.Within mA (fs.map (·.1))
 | .own _=>∃o,h.get? a=some o
 | .xd fs=>∃mA,h.Ns1 a mA/\∀f,RelO (fs.lookup f) (mA f)
 | .rng lo hi=>∃t u v,h.get? a=some { cls:=.type "range",data:=.fields #[.int lo t,.int hi u,.int 1 v] }
 | .frz o u=>h.get? a=some o/\ObjOk H h a u
 | .tbl ps=>h.get? a=some { cls:=.none,data:=.fields ps }
 | .met f x=>h.get? a=some (PySem.W.methodObj (.ref f) (.ref x))
 | .ext φ=>φ h/\(∃o,h.get? a=some o)/\∀h1 h2:Heap,φ h1->(∀o,h1.get? a=some o->h2.get? a=some o)->φ h2
noncomputable def HOk (H:Hp) (h:Heap):Prop:=∀a o,H a=some o->ObjOk P w H h a o
end
section
variable {P:Program}{w:World}{H H':Hp}{h h':Heap}{a:Addr}{o:HO}
theorem ObjOk.lt (x:ObjOk P w H h a o):a<h.objs.size:=by
 cases o with
 | lst xs=>obtain ⟨_,_,_,_,e⟩:=x;exact Heap.lt_size e
 | tup xs=>obtain ⟨_,_,_,p⟩:=x;exact p.lt
 | dK kvs=>obtain ⟨_,_,_,_,o,_,_,e,_⟩:=x;exact Heap.lt_size e
 | dT kvs=>obtain ⟨_,_,_,_,o,_,_,e,_⟩:=x;exact Heap.lt_size e
 | set S n=>obtain ⟨o,_,_,_,e,_⟩:=x;exact Heap.lt_size e
 | ins C dx fs=>obtain ⟨_,_,_,e,_⟩:=x;exact Heap.lt_size e
 | own y=>obtain ⟨_,e⟩:=x;exact Heap.lt_size e
 | xd fs=>obtain ⟨_,⟨_,_,_,e,_⟩,_⟩:=x;exact Heap.lt_size e
 | rng lo hi=>obtain ⟨_,_,_,e⟩:=x;exact Heap.lt_size e
 | frz ob u=>obtain ⟨e,_⟩:=x;exact Heap.lt_size e
 | tbl ps=>exact Heap.lt_size (show h.get? a=some _ from x)
 | met f y=>exact Heap.lt_size (show h.get? a=some _ from x)
 | ext φ=>obtain ⟨_,⟨_,e⟩,_⟩:=x;exact Heap.lt_size e
theorem Paired.mapP {α β:Type}{F G:α->β->Prop}:∀{l₁:List α}{l₂:List β},Paired F l₁ l₂->(∀a b,F a b->G a b)->Paired G l₁ l₂
 | _,_,.nil,_=>.nil
 | _,_,.cons r t,f=>.cons (f _ _ r) (Paired.mapP t f)
theorem ObjOk.stay (x:ObjOk P w H h a o) (k:∀b u,(b=a∨H b=some (.own a))->h.get? b=some u->h'.get? b=some u)
  (ho:∀b,H b=some (.own a)->H' b=some (.own a)) (ht:∀b xs,H b=some (.tup xs)->H' b=some (.tup xs)):ObjOk P w H' h' a o:=by
 induction o with
 | lst xs=>obtain ⟨z,its,n,r,e⟩:=x;exact ⟨z,its,n,r,k _ _ (.inl rfl) e⟩
 | tup xs=>obtain ⟨z,its,r,ob,e,c⟩:=x;exact ⟨z,its,r,ob,k _ _ (.inl rfl) e,c⟩
 | dK kvs=>obtain ⟨z,y,vs,r,ob,es,ep,e,c⟩:=x;exact ⟨z,y,vs,r,ob,es,ep,k _ _ (.inl rfl) e,c⟩
 | dT kvs =>
  obtain ⟨z,y,xs,r,ob,es,ep,e,c⟩:=x
  exact ⟨z,y,xs,Paired.mapP r fun p q z=>⟨z.1,ht _ _ z.2.1,z.2.2⟩,ob,es,ep,k _ _ (.inl rfl) e,c⟩
 | set S n=>obtain ⟨ob,es,ep,t,e,c⟩:=x;exact ⟨ob,es,ep,t,k _ _ (.inl rfl) e,c⟩
 | ins C dx fs =>
  obtain ⟨d,z,ne,e,mA,⟨od,es,ep,e2,c⟩,r⟩:=x
  exact ⟨ho _ d,z,ne,k _ _ (.inl rfl) e,mA,⟨od,es,ep,k _ _ (.inr d) e2,c⟩,r⟩
 | own y=>obtain ⟨ob,e⟩:=x;exact ⟨ob,k _ _ (.inl rfl) e⟩
 | xd fs=>obtain ⟨mA,⟨od,es,ep,e,c⟩,r⟩:=x;exact ⟨mA,⟨od,es,ep,k _ _ (.inl rfl) e,c⟩,r⟩
 | rng lo hi=>obtain ⟨t,u,v,e⟩:=x;exact ⟨t,u,v,k _ _ (.inl rfl) e⟩
 | frz ob u ih=>obtain ⟨e,q⟩:=x;exact ⟨k _ _ (.inl rfl) e,ih q⟩
 | tbl ps =>
  have e:h.get? a=some { cls:=.none,data:=.fields ps }:=x
  show h'.get? a=some { cls:=.none,data:=.fields ps }
  exact k a _ (.inl rfl) e
 | met f y =>
  have e:h.get? a=some (PySem.W.methodObj (.ref f) (.ref y)):=x
  show h'.get? a=some (PySem.W.methodObj (.ref f) (.ref y))
  exact k a _ (.inl rfl) e
 | ext φ=>obtain ⟨p,⟨o,e⟩,st⟩:=x;exact ⟨st _ _ p fun o q=>k _ _ (.inl rfl) q,⟨o,k _ _ (.inl rfl) e⟩,st⟩
theorem HOk.lt (x:HOk P w H h) (e:H a=some o):a<h.objs.size:=(x a o e).lt
theorem HOk.fresh (x:HOk P w H h) (e:h.objs.size<=a):H a=none:=by
 cases q:H a with
 | none=>rfl
 | some u=>exact absurd (Nat.lt_of_lt_of_le (x.lt q) e) (Nat.lt_irrefl _)
theorem HOk.kept (x:HOk P w H h) (k:∀b u,h.get? b=some u->h'.get? b=some u):HOk P w H h':=fun a o e =>
 (x a o e).stay (fun b u _ q=>k b u q) (fun _ q=>q) fun _ _ q=>q
theorem HOk.laid (x:HOk P w H h) (k:∀b u,h.get? b=some u->h'.get? b=some u) (hp:h.objs.size<=a) (new:ObjOk P w (upd H a o) h' a o):HOk P w (upd H a o) h':=fun b u e=>by
 have hn:=x.fresh hp
 by_cases hb:b=a
 ·subst hb;rw [zcg] at e;cases e;exact new
 ·rw [zar hb] at e
  exact (x b u e).stay (fun c v _ q=>k c v q) (fun c q=>by rw [zar (zbc q hn)];exact q) fun c xs q=>by rw [zar (zbc q hn)];exact q
end
noncomputable def Rd (H:Hp) (a:Addr) (u:HO):Prop:=H a=some u∨∃o,H a=some (.frz o u)
theorem Rd.ok {P:Program}{w:World}{H:Hp}{h:Heap}{a:Addr}{u:HO}(r:Rd H a u) (x:HOk P w H h):ObjOk P w H h a u:=by
 rcases r with r|⟨o,r⟩
 ·exact x a u r
 ·obtain ⟨_,q⟩:=x a _ r
  exact q
noncomputable def Mut:Option HO->Prop
 | some (.lst _)=>True
 | some (.dK _)=>True
 | some (.dT _)=>True
 | some (.set _ _)=>True
 | some (.ins _ _ _)=>True
 | some (.ext _)=>True
 | _=>False
section
variable {P:Program}{w:World}{H:Hp}{h h':Heap}{x e:Addr}{o':HO}
theorem HOk.write (ok:HOk P w H h) (mu:Mut (H x)) (he:e=x∨H e=some (.own x)) (k:∀b u,b≠e->h.get? b=some u->h'.get? b=some u) (heo:∃u,h'.get? e=some u)
  (new:ObjOk P w (upd H x o') h' x o'):HOk P w (upd H x o') h':=fun b u q=>by
 have nown:∀c y,H c=some (.own y)->c≠x:=fun c y r z=>by subst z;rw [r] at mu;exact mu
 have ntup:∀c xs,H c=some (.tup xs)->c≠x:=fun c xs r z=>by subst z;rw [r] at mu;exact mu
 by_cases hb:b=x
 ·subst hb;rw [zcg] at q;cases q;exact new
 ·rw [zar hb] at q
  by_cases hbe:b=e
  ·have q':H b=some (.own x):=by
    rcases he with z|z
    ·exact absurd (hbe.trans z) hb
    ·rw [hbe];exact z
   rw [q] at q';cases q'
   obtain ⟨v,hv⟩:=heo
   exact ⟨v,by rw [hbe];exact hv⟩
  ·refine (ok b u q).stay (fun c v hc r=>k c v ?_ r) (fun c r=>by rw [zar (nown c b r)];exact r) fun c xs r=>by rw [zar (ntup c xs r)];exact r
   rcases hc with rfl|hc
   ·exact hbe
   ·rintro rfl
    rcases he with z|z
    ·exact nown c b hc z
    ·rw [hc] at z;cases z;exact hb rfl
end
structure Un (fs ex:List Addr) (H H':Hp) (h h':Heap):Prop where
 keep:∀b o,h.get? b=some o->H b=none->b ∉ fs->b ∉ ex->h'.get? b=some o
 slot:∀b o,h.get? b=some o->H b=none->b∈fs->b ∉ ex->∃sl,h'.get? b=some { o with slots:=sl }
 free:∀b o,h.get? b=some o->H b=none->b ∉ ex->H' b=none
 there:∀b o,h.get? b=some o->b ∉ ex->∃o',h'.get? b=some o'
 tups:∀b xs,H b=some (.tup xs)->H' b=some (.tup xs)
 frzs:∀b o u,H b=some (.frz o u)->H' b=some (.frz o u)
 tbls:∀b ps,H b=some (.tbl ps)->∃more,H' b=some (.tbl (ps++more))
section
variable {fs fs' ex ex':List Addr}{H H1 H2:Hp}{h h1 h2 h':Heap}{a x e:Addr}{o:HO}
theorem Un.any (u:Un fs ex H H1 h h1) {b:Addr}{ob:Obj}(q:h.get? b=some ob) (n:H b=none) (hx:b ∉ ex):∃sl,h1.get? b=some { ob with slots:=sl }:=by
 by_cases hb:b∈fs
 ·exact u.slot b ob q n hb hx
 ·exact ⟨ob.slots,u.keep b ob q n hb hx⟩
theorem Un.kept (k:∀b u,h.get? b=some u->h'.get? b=some u):Un fs ex H H h h' :=
 ⟨fun b ob q _ _ _=>k b ob q,fun b ob q _ _ _=>⟨ob.slots,k b ob q⟩,fun _ _ _ n _=>n,fun b ob q _=>⟨ob,k b ob q⟩,fun _ _ q=>q,fun _ _ _ q=>q,fun _ ps q=>⟨#[],by rw [q];simp⟩⟩
theorem Un.refl:Un fs ex H H h h:=Un.kept fun _ _ q=>q
theorem Un.laid (k:∀b u,h.get? b=some u->h'.get? b=some u) (hp:h.objs.size<=a) (hn:H a=none):Un fs ex H (upd H a o) h h' where
 keep:=fun b u q _ _ _=>k b u q
 slot:=fun b u q _ _ _=>⟨u.slots,k b u q⟩
 free:=fun b u q n _=>by rw [zar (Nat.ne_of_lt (Nat.lt_of_lt_of_le (Heap.lt_size q) hp))];exact n
 there:=fun b u q _=>⟨u,k b u q⟩
 tups:=fun b xs q=>by rw [zar (zbc q hn)];exact q
 frzs:=fun b u xs q=>by rw [zar (zbc q hn)];exact q
 tbls:=fun b ps q=>⟨#[],by rw [zar (zbc q hn),q];simp⟩
theorem Un.write (mu:Mut (H x)) (he:e=x∨H e=some (.own x)) (k:∀b u,b≠e->h.get? b=some u->h'.get? b=some u) (heo:∃u,h'.get? e=some u):Un fs ex H (upd H x o) h h':=by
 have hx:∀b,H b=none->b≠x:=fun b n z=>by subst z;rw [n] at mu;exact mu
 have hb:∀b,H b=none->b≠e:=fun b n z=>by
  subst z
  rcases he with r|r
  ·exact hx b n r
  ·rw [n] at r;cases r
 have hm:∀b u,H b=some u->¬Mut (some u)->b≠x:=fun b u q nm z=>by subst z;rw [q] at mu;exact nm mu
 refine ⟨fun b u q n _ _=>k b u (hb b n) q,fun b u q n _ _=>⟨u.slots,k b u (hb b n) q⟩,fun b u q n _=>by rw [zar (hx b n)];exact n,fun b u q _=>?_,
  fun b xs q=>by rw [zar (hm b _ q fun z=>z)];exact q,fun b u xs q=>by rw [zar (hm b _ q fun z=>z)];exact q,fun b ps q=>⟨#[],by rw [zar (hm b _ q fun z=>z),q];simp⟩⟩
 by_cases hbe:b=e
 ·subst hbe;exact heo
 ·exact ⟨u,k b u hbe q⟩
end
noncomputable def trk (h:Heap) (H:Hp):List Addr:=(List.range h.objs.size).filter fun a=>(H a).isSome
noncomputable def zev (h:Heap) (H:Hp):Heap:=PySem.W.hideAll h (trk h H)
theorem zuw (h:Heap) (H:Hp):(zev h H).objs.size=h.objs.size:=PySem.W.hideAll_size _ _
theorem zux {h:Heap}{H:Hp}{b:Addr}{o:Obj}(e:h.get? b=some o) (n:H b=none):(zev h H).get? b=some o :=
 PySem.W.hideAll_get _ e fun hm=>by
  have q:(H b).isSome=true:=(List.mem_filter.mp hm).2
  rw [n] at q;simp at q
theorem zuy {h:Heap}{H:Hp}{b:Addr}{o:Obj}(e:(zev h H).get? b=some o):h.get? b=some o/\H b=none:=by
 have e':h.get? b=some o:=PySem.W.of_hideAll (trk h H) e
 refine ⟨e',?_⟩
 cases q:H b with
 | none=>rfl
 | some x =>
  have hm:b∈trk h H:=List.mem_filter.mpr ⟨List.mem_range.mpr (Heap.lt_size e'),by simp [q]⟩
  have z:(zev h H).get? b=none:=PySem.W.hideAll_none (trk h H) hm
  rw [z] at e;cases e
noncomputable def zuz (g h:Heap) (L:Addr):List (Addr × Obj):=(List.range h.objs.size).filterMap fun a=>if a=L∨(g.get? a).isSome=true then none else (h.get? a).map fun o=>(a,o)
noncomputable def rest (g h:Heap) (L d:Addr):List (Addr × Obj):=(zuz g h L).filter fun p=>decide (p.1≠d)
structure Mod (K:QFg) (mg:Str->Option Value) (base:Heap):Prop where
 kin:K.In base
 glob:base.Ns mainGlobals mg
 blt:∃mb,base.Ns builtinsNs mb/\∀x:Str,x≠"__name__"->mb x=bootBuiltins x
 nolimit:base.NoLimit
structure Cx where
 prog:Program
 w:World
 K:QFg
 mg:Str->Option Value
 base:Heap
 A:Around
 N:List Str
 s₀:Shared
 H₀:Hp
 env:Env
 outer:List Env
 stack:List Env
 ex:List Addr
 fn:Str->Bool
 calm:Bool
 pn:List (Addr × Obj)
 xe:Value->Shared->Prop
noncomputable def frs (l:List Env):List Addr:=l.filterMap (·.frame)
noncomputable abbrev Cx.fs (X:Cx):List Addr:=frs X.outer
noncomputable def Vis (sc:Scope) (x:Str):Prop:=sc.names.lookup x=some .local∨sc.names.lookup x=some .cell∨sc.names.lookup x=some .free
noncomputable def Loc (sc:Scope) (x:Str):Prop:=sc.names.lookup x=some .local∨sc.names.lookup x=some .cell
noncomputable def zu0 (env:Env) (h:Heap) (m:Str->Option Value) (x:Str) (u:Value):Prop :=
 (env.kindOf x=some .local/\m x=some u)∨((env.kindOf x=some .cell∨env.kindOf x=some .free)/\∃c,env.cells.lookup x=some c/\h.IsCell c (some u))
structure Cx.Ok (X:Cx):Prop where
 mod:Mod X.K X.mg X.base
 kind:X.env.scope.kind=.function
 glob:X.env.globals=mainGlobals
 blt:X.env.builtins=builtinsNs
 above:X.s₀.heap.objs.size<=X.env.locals
 inj:∀x y c,X.env.cells.lookup x=some c->X.env.cells.lookup y=some c->x=y
 has:∀x,(X.env.kindOf x=some .cell∨X.env.kindOf x=some .free)->∃c,X.env.cells.lookup x=some c
 cab:∀x c,X.fn x=true->X.env.cells.lookup x=some c->X.s₀.heap.objs.size<=c
 hd:X.calm=true->X.A.handled=none
 frames:X.A.frames=some X.stack
 stk:X.stack=X.outer∨(X.stack=X.env :: X.outer/\X.env.frame=some X.env.locals)
 exf:∀b∈X.ex,b≠X.env.locals/\∀x c,X.env.cells.lookup x=some c->c≠b
 bs:∀b o,X.base.get? b=some o->X.s₀.heap.get? b=some o/\X.H₀ b=none
 bsz:X.base.objs.size<=X.s₀.heap.objs.size
 noex:∀b o,X.base.get? b=some o->b ∉ X.ex
 exfs:∀b∈X.ex,b ∉ X.fs
 funs:X.s₀.heap.FunFrames X.base X.outer
 frf:∀b∈X.fs,X.H₀ b=none
structure Inv (X:Cx) (pins:List (Addr × Obj)) (σ:List (Option V)) (H:Hp) (s:Shared):Prop where
 ok:X.Ok
 os:s.os=X.s₀.os
 bare:AllBare s.gens
 base:Un X.fs X.ex X.H₀ H X.s₀.heap s.heap
 loc:∃m,s.heap.Ns X.env.locals m/\∀(i:Nat) (x:Str) (v:V),X.N[i]? = some x->σ[i]? = some (some v)->Vis X.env.scope x->∃u,RelV v u/\zu0 X.env s.heap m x u
 cell:∀x c,X.env.cells.lookup x=some c->∃v,s.heap.IsCell c v
 free:H X.env.locals=none
 freeC:∀x c,X.env.cells.lookup x=some c->H c=none
 pin:∀p∈X.pn++pins,s.heap.get? p.1=some p.2/\H p.1=none/\p.1≠X.env.locals/\p.1 ∉ X.fs/\∀v,p.2.data≠.cell v
 hok:HOk X.prog X.w H s.heap
 len:σ.length=X.N.length
section
variable {X:Cx}{pins:List (Addr × Obj)}{σ:List (Option V)}{H H':Hp}{s:Shared}{h':Heap}
theorem Cx.Ok.nofr (ok:X.Ok) {b:Addr}{o:Obj}(e:X.base.get? b=some o):b ∉ X.fs:=fun hb=>by
 have:=(ok.funs.mem hb).1
 rw [e] at this;cases this
theorem Inv.bs (I:Inv X pins σ H s):∀b o,X.base.get? b=some o->s.heap.get? b=some o/\H b=none:=fun b o e =>
 ⟨I.base.keep b o (I.ok.bs b o e).1 (I.ok.bs b o e).2 (I.ok.nofr e) (I.ok.noex b o e),I.base.free b o (I.ok.bs b o e).1 (I.ok.bs b o e).2 (I.ok.noex b o e)⟩
theorem Inv.bk (I:Inv X pins σ H s):∀b o,X.base.get? b=some o->s.heap.get? b=some o:=fun b o e=>(I.bs b o e).1
theorem Inv.mod (I:Inv X pins σ H s):Mod X.K X.mg X.base:=I.ok.mod
theorem Inv.kIn (I:Inv X pins σ H s):X.K.In s.heap:=I.ok.mod.kin.keeps I.bk
theorem Inv.lt (I:Inv X pins σ H s):X.env.locals<s.heap.objs.size:=let ⟨_,hn,_⟩:=I.loc;hn.lt
theorem Inv.sz (I:Inv X pins σ H s):X.s₀.heap.objs.size<=s.heap.objs.size:=Nat.le_trans I.ok.above (Nat.le_of_lt I.lt)
theorem Inv.nofs (I:Inv X pins σ H s) {a:Addr}(h:s.heap.objs.size<=a):a ∉ X.fs:=fun hb=>by
 obtain ⟨_,o,ho,_⟩:=I.ok.funs.mem hb
 exact absurd (Nat.lt_of_lt_of_le (Heap.lt_size ho) (Nat.le_trans I.sz h)) (Nat.lt_irrefl _)
theorem Inv.cne (I:Inv X pins σ H s):∀x c,X.env.cells.lookup x=some c->c≠X.env.locals:=fun x c e z=>by
 obtain ⟨v,o,ho,hd⟩:=I.cell x c e
 obtain ⟨m,⟨o',es,ep,ho',hd',_⟩,_⟩:=I.loc
 rw [z,ho'] at ho;cases ho;rw [hd'] at hd;cases hd
theorem Inv.funs (I:Inv X pins σ H s):s.heap.FunFrames X.base X.outer:=by
 have all:∀(l:List Env),(∀b∈frs l,b∈X.fs)->X.s₀.heap.FunFrames X.base l->s.heap.FunFrames X.base l:=by
  intro l
  induction l with
  | nil=>intro _ _;trivial
  | cons env r ih =>
   intro hs hl
   obtain ⟨hk,⟨L,o,hf,hn,ho,hd⟩,hr⟩:=hl
   have hL:L∈X.fs:=hs L (by unfold frs;rw [List.filterMap_cons,hf];exact List.mem_cons_self)
   obtain ⟨sl,e⟩:=I.base.slot L o ho (I.ok.frf L hL) hL fun z=>I.ok.exfs L z hL
   exact ⟨hk,⟨L,_,hf,hn,e,hd⟩,ih (fun b hb=>hs b (by unfold frs;rw [List.filterMap_cons,hf];exact List.mem_cons_of_mem _ hb)) hr⟩
 exact all X.outer (fun _ hb=>hb) I.ok.funs
theorem Inv.stack (I:Inv X pins σ H s):s.heap.FunFrames X.base X.stack:=by
 rcases I.ok.stk with e|⟨e,hf⟩
 ·rw [e];exact I.funs
 ·rw [e]
  obtain ⟨m,hn,_⟩:=I.loc
  refine .cons (by rw [I.ok.kind];decide) hf hn ?_ I.funs
  exact Heap.get?_none_of_le (Nat.le_trans I.ok.bsz I.ok.above)
theorem Inv.stkSub (I:Inv X pins σ H s):∀b∈frs X.stack,b∈X.env.locals :: X.fs:=fun b hb=>by
 rcases I.ok.stk with e|⟨e,hf⟩
 ·rw [e] at hb;exact List.mem_cons_of_mem _ hb
 ·rw [e] at hb
  unfold frs at hb
  rw [List.filterMap_cons,hf] at hb
  exact hb
theorem Inv.stkFree (I:Inv X pins σ H s):∀b∈frs X.stack,H b=none:=fun b hb=>by
 rcases List.mem_cons.mp (I.stkSub b hb) with e|hb
 ·rw [e];exact I.free
 ·obtain ⟨_,o,ho,_⟩:=I.ok.funs.mem hb
  exact I.base.free b o ho (I.ok.frf b hb) fun z=>I.ok.exfs b z hb
theorem Inv.step {g':Array GenState}{t':Nat}{d':Drawn}{ch:List Addr}(I:Inv X pins σ H s)
  (hch:∀b∈ch,(b∈X.ex∨X.s₀.heap.objs.size<=b)/\b≠X.env.locals/\(∀x c,X.env.cells.lookup x=some c->c≠b)/\∀p∈X.pn++pins,p.1≠b)
  (keep:∀b o,b≠X.env.locals->b ∉ X.fs->b ∉ ch->s.heap.get? b=some o->H b=none->h'.get? b=some o)
  (slot:∀b o,b≠X.env.locals->b∈X.fs->b ∉ ch->s.heap.get? b=some o->H b=none->∃sl,h'.get? b=some { o with slots:=sl }) (free:∀b o,b ∉ ch->s.heap.get? b=some o->H b=none->H' b=none)
  (there:∀b o,b ∉ ch->s.heap.get? b=some o->∃o',h'.get? b=some o')
  (tups:∀b xs,H b=some (.tup xs)->H' b=some (.tup xs)) (frzs:∀b o u,H b=some (.frz o u)->H' b=some (.frz o u)) (tbls:∀b ps,H b=some (.tbl ps)->∃more,H' b=some (.tbl (ps++more)))
  (ns:∀m,s.heap.Ns X.env.locals m->h'.Ns X.env.locals m) (hok:HOk X.prog X.w H' h') (hg:AllBare g') :
  Inv X pins σ H' { s with heap:=h',gens:=g',drawn:=d',toks:=t' }:=by
 have neL:∀b o,X.s₀.heap.get? b=some o->b≠X.env.locals:=fun b o e=>Nat.ne_of_lt (Nat.lt_of_lt_of_le (Heap.lt_size e) I.ok.above)
 have neC:∀b o,X.s₀.heap.get? b=some o->b ∉ X.ex->b ∉ ch:=fun b o e hx hb=>by
  rcases (hch b hb).1 with z|z
  ·exact hx z
  ·exact absurd (Nat.lt_of_lt_of_le (Heap.lt_size e) z) (Nat.lt_irrefl _)
 have cellK:∀x c,X.env.cells.lookup x=some c->∀v,s.heap.IsCell c v->h'.IsCell c v:=fun x c e v hx1_=>by
  obtain ⟨o,ho,hd⟩:=hx1_
  have nch:c ∉ ch:=fun z=>(hch c z).2.2.1 x c e rfl
  by_cases hc:c∈X.fs
  ·obtain ⟨sl,q⟩:=slot c o (I.cne x c e) hc nch ho (I.freeC x c e)
   exact ⟨_,q,hd⟩
  ·exact ⟨o,keep c o (I.cne x c e) hc nch ho (I.freeC x c e),hd⟩
 refine ⟨I.ok,I.os,hg,⟨fun b o e n hb hx=>?_,fun b o e n hb hx=>?_,fun b o e n hx=>?_,fun b o e hx=>?_,fun b xs e=>tups b xs (I.base.tups b xs e),fun b o xs e=>frzs b o xs (I.base.frzs b o xs e),fun b ps e=>?_⟩,?_,fun x c e=>?_,?_,fun x c e=>?_,fun p hp=>?_,hok,I.len⟩
 ·exact keep b o (neL b o e) hb (neC b o e hx) (I.base.keep b o e n hb hx) (I.base.free b o e n hx)
 ·obtain ⟨sl,e1⟩:=I.base.slot b o e n hb hx
  obtain ⟨sl',e2⟩:=slot b _ (neL b o e) hb (neC b o e hx) e1 (I.base.free b o e n hx)
  exact ⟨sl',e2⟩
 ·obtain ⟨o',e1⟩:=I.base.there b o e hx
  exact free b o' (neC b o e hx) e1 (I.base.free b o e n hx)
 ·obtain ⟨o',e1⟩:=I.base.there b o e hx
  exact there b o' (neC b o e hx) e1
 ·obtain ⟨m1,e1⟩:=I.base.tbls b ps e
  obtain ⟨m2,e2⟩:=tbls b _ e1
  exact ⟨m1++m2,by rw [e2,Array.append_assoc]⟩
 ·obtain ⟨m,hn,hl⟩:=I.loc
  refine ⟨m,ns m hn,fun i x v e1 e2 e3=>?_⟩
  obtain ⟨u,r,l⟩:=hl i x v e1 e2 e3
  refine ⟨u,r,?_⟩
  rcases l with l|⟨k,c,e,z⟩
  ·exact .inl l
  ·exact .inr ⟨k,c,e,cellK x c e _ z⟩
 ·obtain ⟨v,z⟩:=I.cell x c e
  exact ⟨v,cellK x c e v z⟩
 ·obtain ⟨m,⟨o,_,_,ho,_⟩,_⟩:=I.loc
  exact free _ o (fun z=>(hch _ z).2.1 rfl) ho I.free
 ·obtain ⟨v,o,ho,hd⟩:=I.cell x c e
  exact free c o (fun z=>(hch c z).2.2.1 x c e rfl) ho (I.freeC x c e)
 ·obtain ⟨e,n,ne,nf,d⟩:=I.pin p hp
  have nch:p.1 ∉ ch:=fun z=>(hch p.1 z).2.2.2 p hp rfl
  exact ⟨keep p.1 p.2 ne nf nch e n,free p.1 p.2 nch e n,ne,nf,d⟩
theorem Inv.un {t':Nat}(I:Inv X pins σ H s) (u:Un X.fs [] H H' s.heap h') (hok:HOk X.prog X.w H' h'):Inv X pins σ H' { s with heap:=h',toks:=t' }:=by
 obtain ⟨m,⟨o,es,ep,ho,r⟩,_⟩:=id I.loc
 obtain ⟨sl,hL⟩:=u.any ho I.free (by simp)
 exact I.step (g':=s.gens) (d':=s.drawn) (ch:=[]) (fun _ z=>nomatch z) (fun b o _ hb _ e n=>u.keep b o e n hb (by simp)) (fun b o _ hb _ e n=>u.slot b o e n hb (by simp)) (fun b o _ e n=>u.free b o e n (by simp)) (fun b o _ e=>u.there b o e (by simp)) u.tups u.frzs u.tbls (fun m' hm=>by
  obtain ⟨o',es',ep',ho',r'⟩:=hm
  rw [ho] at ho';cases ho'
  exact ⟨_,es',ep',hL,r'⟩) hok I.bare
theorem Inv.call {g':Array GenState}{t':Nat}{d':Drawn}{ch:List Addr}(I:Inv X pins σ H s) (u:Un (frs X.stack) ch H H' s.heap h') (hok:HOk X.prog X.w H' h') (hg:AllBare g')
  (hch:∀b∈ch,(b∈X.ex∨X.s₀.heap.objs.size<=b)/\b≠X.env.locals/\(∀x c,X.env.cells.lookup x=some c->c≠b)/\∀p∈X.pn++pins,p.1≠b) :
  Inv X pins σ H' { s with heap:=h',gens:=g',drawn:=d',toks:=t' }:=by
 obtain ⟨m,⟨o,es,ep,ho,r⟩,_⟩:=id I.loc
 obtain ⟨sl,hL⟩:=u.any ho I.free fun z=>(hch _ z).2.1 rfl
 exact I.step (ch:=ch) hch (fun b o hL hb hc e n=>u.keep b o e n (fun z=>(List.mem_cons.mp (I.stkSub b z)).elim hL hb) hc) (fun b o _ _ hc e n=>u.any e n hc) (fun b o hc e n=>u.free b o e n hc) (fun b o hc e=>u.there b o e hc) u.tups u.frzs u.tbls (fun m' hm=>by
  obtain ⟨o',es',ep',ho',r'⟩:=hm
  rw [ho] at ho';cases ho'
  exact ⟨_,es',ep',hL,r'⟩) hok hg
theorem Inv.turned {t':Nat}{it:Addr}(I:Inv X pins σ H s) (k:∀b o,b≠it->s.heap.get? b=some o->h'.get? b=some o) (hn:H it=none) (hL:it≠X.env.locals)
  (h1:it∈X.ex∨X.s₀.heap.objs.size<=it) (h2:∀x c,X.env.cells.lookup x=some c->c≠it) (h3:∀p∈X.pn++pins,p.1≠it):Inv X pins σ H { s with heap:=h',toks:=t' }:=by
 have nit:∀b u,H b=some u->b≠it:=fun b u e z=>by rw [z,hn] at e;cases e
 refine I.step (g':=s.gens) (d':=s.drawn) (ch:=[it]) (fun b hb=>?_) (fun b o _ _ hc e _=>k b o (fun z=>hc (by simp [z])) e) (fun b o _ _ hc e _=>⟨o.slots,k b o (fun z=>hc (by simp [z])) e⟩) (fun _ _ _ _ n=>n)
  (fun b o hc e=>⟨o,k b o (fun z=>hc (by simp [z])) e⟩) (fun _ _ e=>e) (fun _ _ _ e=>e) (fun b ps e=>⟨#[],by rw [e];simp⟩) (fun m hm=>?_) (fun b u e=>?_) I.bare
 ·have e:b=it:=by simpa using hb
  subst e
  exact ⟨h1,hL,h2,h3⟩
 ·obtain ⟨o,es,ep,ho,r⟩:=hm
  exact ⟨o,es,ep,k _ o (Ne.symm hL) ho,r⟩
 ·refine (I.hok b u e).stay (fun c v hc q=>k c v ?_ q) (fun _ q=>q) fun _ _ q=>q
  rcases hc with z|z
  ·rw [z];exact nit b u e
  ·exact nit c _ z
theorem Inv.tok (I:Inv X pins σ H s) (t:Nat):Inv X pins σ H { s with toks:=t }:=I.un (h':=s.heap) (t':=t) Un.refl I.hok
theorem Inv.kept {t':Nat}(I:Inv X pins σ H s) (k:∀b u,s.heap.get? b=some u->h'.get? b=some u):Inv X pins σ H { s with heap:=h',toks:=t' }:=I.un (Un.kept k) (I.hok.kept k)
theorem Inv.laid {a:Addr}{o:HO}{t':Nat}(I:Inv X pins σ H s) (k:∀b u,s.heap.get? b=some u->h'.get? b=some u) (hp:s.heap.objs.size<=a) (new:ObjOk X.prog X.w (upd H a o) h' a o) :
  Inv X pins σ (upd H a o) { s with heap:=h',toks:=t' }:=I.un (Un.laid k hp (I.hok.fresh hp)) (I.hok.laid k hp new)
theorem Inv.write {x e:Addr}{o:HO}{t':Nat}(I:Inv X pins σ H s) (mu:Mut (H x)) (he:e=x∨H e=some (.own x)) (k:∀b u,b≠e->s.heap.get? b=some u->h'.get? b=some u) (heo:∃u,h'.get? e=some u)
  (new:ObjOk X.prog X.w (upd H x o) h' x o):Inv X pins σ (upd H x o) { s with heap:=h',toks:=t' }:=I.un (Un.write mu he k heo) (I.hok.write mu he k heo new)
theorem Inv.pins_of {pins':List (Addr × Obj)}(I:Inv X pins σ H s) (h:∀p∈pins',s.heap.get? p.1=some p.2/\H p.1=none/\p.1≠X.env.locals/\p.1 ∉ X.fs/\∀v,p.2.data≠.cell v):Inv X pins' σ H s :=
 ⟨I.ok,I.os,I.bare,I.base,I.loc,I.cell,I.free,I.freeC,fun p hp=>(List.mem_append.mp hp).elim (fun z=>I.pin p (List.mem_append_left _ z)) (h p),I.hok,I.len⟩
theorem zn5 {N:List Str}(hN:N.Nodup) {i j:Nat}{x:Str}(a:N[i]? = some x) (b:N[j]? = some x):i=j:=by
 obtain ⟨h1,e1⟩:=qme a
 obtain ⟨h2,e2⟩:=qme b
 exact (List.getElem_inj hN).mp (e1.trans e2.symm)
theorem zn6 {M:Model}{A:Around}{E:Value->Shared->Prop}{i:Nat}{x:Str}{v:V}{u:Value}{Q:Unit->Shared->Prop}(I:Inv X pins σ H s) (hN:X.N.Nodup) (hi:X.N[i]? = some x) (hx:Loc X.env.scope x) (r:RelV v u)
  (h:∀s',Inv X pins (σ.set i (some v)) H s'->(∃a,Heap.SameBut a s.heap s'.heap/\(a=X.env.locals∨X.env.cells.lookup x=some a))->Q () s') (hf:X.fn x=true∨X.env.scope.names.lookup x=some .local:=by first|exact .inl rfl|exact .inr rfl|assumption):wpAny M A (storeName X.env x u) Q E s:=by
 obtain ⟨m,hn,hl⟩:=id I.loc
 have hcls:(X.env.scope.kind == .class || (X.env.scope.kind == .module && X.env.locals != X.env.globals))=false:=by rw [I.ok.kind];rfl
 have hiσ:i<σ.length:=by rw [I.len];exact (qme hi).1
 have cne:=I.cne
 have tracked:∀{a:Addr} {h':Heap},(∃o,s.heap.get? a=some o/\H a=none)->Heap.SameBut a s.heap h'->HOk X.prog X.w H h':=fun {a h'} ha hs b ob e=>by
  obtain ⟨_,_,hfree⟩:=ha
  refine (I.hok b ob e).stay (fun c w' hc q=>(hs.2 c ?_).trans q) (fun _ q=>q) fun _ _ q=>q
  rintro rfl
  rcases hc with rfl|hc
  ·rw [hfree] at e;cases e
  ·rw [hfree] at hc;cases hc
 rcases hx with hk|hk
 ·refine wpAny_storeName_local hk hn (fun h' hn' hs=>?_) hcls
  obtain ⟨oL,_,_,hoL,_⟩:=id hn
  refine h _ ⟨I.ok,I.os,I.bare,⟨fun b o e n hb hx=>?_,fun b o e n hb hx=>?_,I.base.free,fun b o e hx=>?_,I.base.tups,I.base.frzs,I.base.tbls⟩,⟨_,hn',fun j y v' e1 e2 e3=>?_⟩,fun y c e=>?_,I.free,I.freeC,fun p hp=>?_,tracked ⟨oL,hoL,I.free⟩ hs,by simpa using I.len⟩ ⟨_,hs,.inl rfl⟩
  ·exact (hs.2 b (Nat.ne_of_lt (Nat.lt_of_lt_of_le (Heap.lt_size e) I.ok.above))).trans (I.base.keep b o e n hb hx)
  ·obtain ⟨sl,e1⟩:=I.base.slot b o e n hb hx
   exact ⟨sl,(hs.2 b (Nat.ne_of_lt (Nat.lt_of_lt_of_le (Heap.lt_size e) I.ok.above))).trans e1⟩
  ·obtain ⟨o',e1⟩:=I.base.there b o e hx
   exact ⟨o',(hs.2 b (Nat.ne_of_lt (Nat.lt_of_lt_of_le (Heap.lt_size e) I.ok.above))).trans e1⟩
  ·by_cases hj:j=i
   ·subst hj
    rw [hi] at e1;cases e1
    rw [List.getElem?_set_self hiσ] at e2
    cases e2
    exact ⟨u,r,.inl ⟨hk,by simp⟩⟩
   ·rw [List.getElem?_set_ne (Ne.symm hj)] at e2
    obtain ⟨u',r',q⟩:=hl j y v' e1 e2 e3
    refine ⟨u',r',?_⟩
    rcases q with ⟨k,e⟩|⟨k,c,e,z⟩
    ·refine .inl ⟨k,?_⟩
     have:y≠x:=fun e=>hj (zn5 hN e1 (e ▸ hi))
     simp [this,e]
    ·exact .inr ⟨k,c,e,z.sameBut hs (cne y c e)⟩
  ·obtain ⟨w',z⟩:=I.cell y c e
   exact ⟨w',z.sameBut hs (cne y c e)⟩
  ·obtain ⟨e,n,ne,nf,d⟩:=I.pin p hp
   exact ⟨(hs.2 p.1 ne).trans e,n,ne,nf,d⟩
 ·have hfn:X.fn x=true:=by
   rcases hf with z|z
   ·exact z
   ·rw [z] at hk;cases hk
  obtain ⟨c,hc⟩:=I.ok.has x (.inl hk)
  obtain ⟨w',z⟩:=I.cell x c hc
  refine wpAny_storeName_cell I.ok.kind hk hc z (fun h' hc' hs=>?_)
  obtain ⟨oc,hoc,hocd⟩:=id z
  refine h { s with heap:=h' } ⟨I.ok,I.os,I.bare,⟨fun b o e n hb hx=>?_,fun b o e n hb hx=>?_,I.base.free,fun b o e hx=>?_,I.base.tups,I.base.frzs,I.base.tbls⟩,⟨m,hn.sameBut hs (Ne.symm (cne x c hc)),fun j y v' e1 e2 e3=>?_⟩,fun y c' e=>?_,I.free,I.freeC,fun p hp=>?_,tracked ⟨oc,hoc,I.freeC x c hc⟩ hs,by simpa using I.len⟩ ⟨c,hs,.inr hc⟩
  ·exact (hs.2 b (Nat.ne_of_lt (Nat.lt_of_lt_of_le (Heap.lt_size e) (I.ok.cab x c hfn hc)))).trans (I.base.keep b o e n hb hx)
  ·obtain ⟨sl,e1⟩:=I.base.slot b o e n hb hx
   exact ⟨sl,(hs.2 b (Nat.ne_of_lt (Nat.lt_of_lt_of_le (Heap.lt_size e) (I.ok.cab x c hfn hc)))).trans e1⟩
  ·obtain ⟨o',e1⟩:=I.base.there b o e hx
   exact ⟨o',(hs.2 b (Nat.ne_of_lt (Nat.lt_of_lt_of_le (Heap.lt_size e) (I.ok.cab x c hfn hc)))).trans e1⟩
  ·by_cases hj:j=i
   ·subst hj
    rw [hi] at e1;cases e1
    rw [List.getElem?_set_self hiσ] at e2
    cases e2
    exact ⟨u,r,.inr ⟨.inl hk,c,hc,hc'⟩⟩
   ·rw [List.getElem?_set_ne (Ne.symm hj)] at e2
    obtain ⟨u',r',q⟩:=hl j y v' e1 e2 e3
    refine ⟨u',r',?_⟩
    rcases q with q|⟨k,c',e,z'⟩
    ·exact .inl q
    ·refine .inr ⟨k,c',e,z'.sameBut hs ?_⟩
     rintro rfl
     exact hj (zn5 hN e1 (I.ok.inj _ _ _ e hc ▸ hi))
  ·by_cases hcc:c' = c
   ·subst hcc;exact ⟨_,hc'⟩
   ·obtain ⟨w2,z2⟩:=I.cell y c' e
    exact ⟨w2,z2.sameBut hs hcc⟩
  ·obtain ⟨e,n,ne,nf,d⟩:=I.pin p hp
   refine ⟨(hs.2 p.1 ?_).trans e,n,ne,nf,d⟩
   intro q
   rw [q,hoc] at e
   have q':oc=p.2:=qoi e
   exact d w' (by rw [←q'];exact hocd)
theorem zk3 {M:Model}{A:Around}{E:Value->Shared->Prop}{i:Nat}{x:Str}{v:V}{u:Value}{Q:Unit->Shared->Prop}(I:Inv X pins σ H s) (hN:X.N.Nodup) (hi:X.N[i]? = some x) (hx:Loc X.env.scope x) (r:RelV v u)
  (h:∀s',Inv X pins (σ.set i (some v)) H s'->Q () s') (hf:X.fn x=true∨X.env.scope.names.lookup x=some .local:=by first|exact .inl rfl|exact .inr rfl|assumption):wpAny M A (storeName X.env x u) Q E s :=
 zn6 I hN hi hx r (fun s' I' _=>h s' I') hf
theorem Inv.call' {s':Shared}{ch:List Addr}(I:Inv X pins σ H s) (ho:s'.os=s.os) (u:Un (frs X.stack) ch H H' s.heap s'.heap) (hok:HOk X.prog X.w H' s'.heap) (hg:AllBare s'.gens)
  (hch:∀b∈ch,(b∈X.ex∨X.s₀.heap.objs.size<=b)/\b≠X.env.locals/\(∀x c,X.env.cells.lookup x=some c->c≠b)/\∀p∈X.pn++pins,p.1≠b):Inv X pins σ H' s':=by
 obtain ⟨h',g',d',t',o'⟩:=s'
 have e:o' = s.os:=ho
 subst e
 exact I.call (g':=g') (t':=t') (d':=d') u hok hg hch
end
noncomputable abbrev XK:=Value->Option Addr->Hp->Prop
noncomputable abbrev St:=List (Option V)
noncomputable abbrev VK:=V->Hp->Prop
noncomputable abbrev TE:=St->Hp->VK->Prop
noncomputable abbrev TT:=St->Hp->(Bool->Hp->Prop)->Prop
noncomputable abbrev TA:=St->Hp->(List V->Hp->Prop)->Prop
structure Ends where
 nx:St->Hp->Prop
 rt:VK
 bk:St->Hp->Prop:=fun _ _=>False
 ct:St->Hp->Prop:=fun _ _=>False
noncomputable abbrev TS:=Ends->St->Hp->Prop
noncomputable def EP (X:Cx) (pins:List (Addr × Obj)) (σ:St) (Q:VK) (u:Value) (s':Shared):Prop:=∃v H',Inv X pins σ H' s'/\RelV v u/\Q v H'
noncomputable def TP (X:Cx) (pins:List (Addr × Obj)) (σ:St) (Q:Bool->Hp->Prop) (b:Bool) (s':Shared):Prop:=∃H',Inv X pins σ H' s'/\Q b H'
noncomputable def AP (X:Cx) (pins:List (Addr × Obj)) (σ:St) (Q:List V->Hp->Prop) (us:List Value) (s':Shared):Prop:=∃vs H',Inv X pins σ H' s'/\Vals vs us/\Q vs H'
noncomputable def SP (X:Cx) (pins:List (Addr × Obj)) (D:Ends) (f:Flow) (s':Shared):Prop :=
 match f with
 | .next=>∃σ' H',Inv X pins σ' H' s'/\D.nx σ' H'
 | .brk=>∃σ' H',Inv X pins σ' H' s'/\D.bk σ' H'
 | .cont=>∃σ' H',Inv X pins σ' H' s'/\D.ct σ' H'
 | .ret u=>∃v σ' H',Inv X pins σ' H' s'/\RelV v u/\D.rt v H'
noncomputable def PE (X:Cx) (e:Expr) (t:TE):Prop :=
 ∀(pins:List (Addr × Obj)) (s:Shared) (σ:St) (H:Hp) (Q:VK),Inv X pins σ H s->t σ H Q->wpAny (model X.prog X.w) X.A (eval e X.env) (EP X pins σ Q) X.xe s
noncomputable def PT (X:Cx) (e:Expr) (t:TT):Prop :=
 ∀(pins:List (Addr × Obj)) (s:Shared) (σ:St) (H:Hp) (Q:Bool->Hp->Prop),Inv X pins σ H s->t σ H Q->wpAny (model X.prog X.w) X.A (isTrue e X.env (eval e X.env)) (TP X pins σ Q) X.xe s
noncomputable def PW (X:Cx) (e:Expr) (t:TT):Prop :=
 ∀(whole:Sem Value) (pins:List (Addr × Obj)) (s:Shared) (σ:St) (H:Hp) (Q:Bool->Hp->Prop),Inv X pins σ H s->t σ H Q->wpAny (model X.prog X.w) X.A (isTrue e X.env whole) (TP X pins σ Q) X.xe s
theorem PW.pt {X:Cx}{e:Expr}{t:TT}(h:PW X e t):PT X e t:=h _
noncomputable def PA (X:Cx) (es:List Expr) (t:TA):Prop :=
 ∀(pos:Pos) (pins:List (Addr × Obj)) (s:Shared) (σ:St) (H:Hp) (Q:List V->Hp->Prop),Inv X pins σ H s->t σ H Q->wpAny (model X.prog X.w) X.A (spliced (backTo pos (starEach es X.env))) (AP X pins σ Q) X.xe s
noncomputable def PS (X:Cx) (st:Stmt) (t:TS):Prop :=
 ∀(pins:List (Addr × Obj)) (s:Shared) (σ:St) (H:Hp) (D:Ends),Inv X pins σ H s->t D σ H->wpAny (model X.prog X.w) X.A (exec st X.env) (SP X pins D) X.xe s
noncomputable def PSs (X:Cx) (st:List Stmt) (t:TS):Prop :=
 ∀(pins:List (Addr × Obj)) (s:Shared) (σ:St) (H:Hp) (D:Ends),Inv X pins σ H s->t D σ H->wpAny (model X.prog X.w) X.A (execs st X.env) (SP X pins D) X.xe s
theorem thn {α:Type}{t:Sem α}{Q Q':α->Shared->Prop}{M:Model}{A:Around}{E:Value->Shared->Prop}{s:Shared}(h:wpAny M A t Q E s) (hQ:∀a s,Q a s->Q' a s):wpAny M A t Q' E s:=wpAny_mono h hQ fun _ _ x=>x
section
variable {X:Cx}
theorem bin {a b:Expr}{ta tb:TE}(ha:PE X a ta) (hb:PE X b tb) {pins:List (Addr × Obj)}{s:Shared}{σ:St}{H:Hp}{R:V->V->Hp->Prop}(I:Inv X pins σ H s) (h:ta σ H fun x H1=>tb σ H1 fun y H2=>R x y H2)
  {α:Type} {Q:α->Shared->Prop} {f:Value->Value->Sem α}
  (hf:∀v u s2 x y H2,Inv X pins σ H2 s2->RelV x v->RelV y u->R x y H2->wpAny (model X.prog X.w) X.A (f v u) Q X.xe s2) :
  wpAny (model X.prog X.w) X.A (eval a X.env) (fun v s₁=>wpAny (model X.prog X.w) X.A (eval b X.env) (fun u s₂=>wpAny (model X.prog X.w) X.A (f v u) Q X.xe s₂) X.xe s₁) X.xe s:=by
 refine thn (ha pins s σ H _ I h) fun v s1 ⟨x,H1,I1,r1,q1⟩=>?_
 refine thn (hb pins s1 σ H1 _ I1 q1) fun u s2 ⟨y,H2,I2,r2,q2⟩=>?_
 exact hf v u s2 x y H2 I2 r1 r2 q2
noncomputable def zu1 (i:Nat):TE:=fun σ H Q=>∃v,σ[i]? = some (some v)/\Q v H
noncomputable def tC (v:V):TE:=fun _ H Q=>Q v H
theorem zu2 {i:Nat}{x:Str}{pos:Pos}(hN:X.N[i]? = some x) (hv:Vis X.env.scope x) (hd:(x == ("__debug__":Str))=false:=by decide) (hcd:(x == ("__classdict__":Str))=false:=by decide):PE X (.Name x pos) (zu1 i):=by
 intro pins s σ H Q I h
 obtain ⟨v,e,h⟩:=h
 obtain ⟨m,hn,hl⟩:=I.loc
 obtain ⟨u,r,l⟩:=hl i x v hN e hv
 have fin:EP X pins σ Q u s:=⟨v,H,I,r,h⟩
 rcases l with ⟨hk,hm⟩|⟨hk,c,hc,hcell⟩
 ·exact wpAny_Name (wpAny_loadName_local I.ok.kind hk hn hm fin) hd
 ·rcases hk with hk|hk
  ·exact wpAny_Name (wpAny_loadName_cell I.ok.kind hk hc hcell fin) hd
  ·exact wpAny_Name (wpAny_loadName_free I.ok.kind hk hc hcell fin hcd) hd
theorem zu3 {i j pos}:PE X (.Constant (.int i) j pos) (tC (.int i)):=fun _ _ _ H _ I h=>wpAny_Constant_int ⟨.int i,H,I.tok _,⟨_,rfl⟩,h⟩
theorem zu4 {b j pos}:PE X (.Constant (.bool b) j pos) (tC (.bl b)):=fun _ _ _ H _ I h=>Constant_bool ⟨.bl b,H,I,rfl,h⟩
theorem zu5 {j pos}:PE X (.Constant .none j pos) (tC .non):=fun _ _ _ H _ I h=>Constant_none ⟨.non,H,I,rfl,h⟩
theorem zu6 {x j pos}:PE X (.Constant (.str x) j pos) (tC (.str x)):=fun _ _ _ H _ I h=>Calls.Constant_str ⟨.str x,H,I.tok _,⟨_,rfl⟩,h⟩
noncomputable def Gl (X:Cx) (x:Str):Prop:=X.env.kindOf x=some .globalImplicit
theorem zn7 {E:Value->Shared->Prop}{pins:List (Addr × Obj)}{s:Shared}{σ:St}{H:Hp}{x:Str}{u:Value}{pos:Pos}{Q:Value->Shared->Prop}(I:Inv X pins σ H s) (hg:Gl X x) (hm:X.mg x=some u) (h:Q u s)
  (hd:(x == ("__debug__":Str))=false:=by decide):wpAny (model X.prog X.w) X.A (eval (.Name x pos) X.env) Q E s :=
 Calls.Name_function_global I.ok.kind hg (Calls.loadGlobal_global (by rw [I.ok.glob];exact I.mod.glob.keeps I.bk) hm h) hd
theorem zfv {E:Value->Shared->Prop}{pins:List (Addr × Obj)}{s:Shared}{σ:St}{H:Hp}{x:Str}{u:Value}{pos:Pos}{Q:Value->Shared->Prop}(I:Inv X pins σ H s) (hg:Gl X x) (hm:X.mg x=none) (hv:bootBuiltins x=some u) (h:Q u s)
  (hn:x≠"__name__":=by decide) (hd:(x == ("__debug__":Str))=false:=by decide):wpAny (model X.prog X.w) X.A (eval (.Name x pos) X.env) Q E s:=by
 obtain ⟨mb,h1,h2⟩:=I.mod.blt
 exact Calls.Name_function_global I.ok.kind hg (Calls.loadGlobal_builtin (by rw [I.ok.glob];exact I.mod.glob.keeps I.bk) hm (by rw [I.ok.blt];exact h1.keeps I.bk) ((h2 x hn).trans hv) h) hd
variable {a b:Expr}{ta tb:TE}{pos:Pos}
noncomputable def tB (t:TE):TT:=fun σ H Q=>t σ H fun x H1=>∃c,x=.bl c/\Q c H1
theorem zu7 {e:Expr}{t:TE}(h:PE X e t) (he:∀whole,isTrue e X.env whole=(do let v ←whole;standAt e.pos;holding [v] (truthy v)):=by intro _;rfl):PT X e (tB t):=by
 intro pins s σ H Q I hw
 refine isTrue_plain (thn (h pins s σ H _ I hw) fun v s1 ⟨x,H1,I1,r1,q1⟩=>?_) (he _)
 obtain ⟨d,rfl,q⟩:=q1
 cases r1
 exact wpAny_truthy_bool ⟨H1,I1,q⟩
variable {tA tB':TT}{rest:List Expr}
noncomputable def tAnd (t u:TT):TT:=fun σ H Q=>t σ H fun c H1=>if c=true then u σ H1 Q else Q false H1
noncomputable def tOr (t u:TT):TT:=fun σ H Q=>t σ H fun c H1=>if c=true then Q true H1 else u σ H1 Q
noncomputable def zu8 (t:TT):TT:=fun σ H Q=>t σ H fun c H1=>Q (!c) H1
theorem zu9 (ha:PT X a tA):PW X (.BoolOp .And [a] pos) tA:=by
 intro wh pins s σ H Q I h
 refine isTrue_and (thn (ha pins s σ H Q I h) fun c s1 e=>?_)
 cases c with
 | true=>exact isTrue_and_nil e
 | false=>exact e
theorem zva (ha:PT X a tA):PW X (.BoolOp .Or [a] pos) tA:=by
 intro wh pins s σ H Q I h
 refine isTrue_or (thn (ha pins s σ H Q I h) fun c s1 e=>?_)
 cases c with
 | false=>exact isTrue_or_nil e
 | true=>exact e
theorem zvb (ha:PT X a tA) (hb:PW X (.BoolOp .And (b :: rest) pos) tB'):PW X (.BoolOp .And (a :: b :: rest) pos) (tAnd tA tB'):=by
 intro wh pins s σ H Q I h
 refine isTrue_and (thn (ha pins s σ H _ I h) fun c s1 ⟨H1,I1,q1⟩=>?_)
 cases c with
 | true=>exact hb wh pins s1 σ H1 Q I1 q1
 | false=>exact ⟨H1,I1,q1⟩
theorem zvc (ha:PT X a tA) (hb:PW X (.BoolOp .Or (b :: rest) pos) tB'):PW X (.BoolOp .Or (a :: b :: rest) pos) (tOr tA tB'):=by
 intro wh pins s σ H Q I h
 refine isTrue_or (thn (ha pins s σ H _ I h) fun c s1 ⟨H1,I1,q1⟩=>?_)
 cases c with
 | true=>exact ⟨H1,I1,q1⟩
 | false=>exact hb wh pins s1 σ H1 Q I1 q1
theorem zvd (ha:PT X a tA):PT X (.UnaryOp .Not a pos) (zu8 tA):=by
 intro pins s σ H Q I h
 exact isTrue_not (ha pins s σ H (fun c H1=>Q (!c) H1) I h)
noncomputable def zve (ta tb:TE):TE:=fun σ H Q=>ta σ H fun x H1=>∃c,x=.bl c/\if c=true then tb σ H1 Q else Q (.bl false) H1
noncomputable def zvf (ta tb:TE):TE:=fun σ H Q=>ta σ H fun x H1=>∃c,x=.bl c/\if c=true then Q (.bl true) H1 else tb σ H1 Q
theorem zvg {op}{t:TE}(h:PE X a t):PE X (.BoolOp op [a] pos) t:=fun pins s σ H Q I hw=>BoolOp_one (h pins s σ H Q I hw)
theorem zvh (ha:PE X a ta) (hb:PE X (.BoolOp .And (b :: rest) pos) tb):PE X (.BoolOp .And (a :: b :: rest) pos) (zve ta tb):=by
 intro pins s σ H Q I h
 refine BoolOp_and (thn (ha pins s σ H _ I h) fun v s1 ⟨x,H1,I1,r1,q1⟩=>?_)
 obtain ⟨c,rfl,q1⟩:=q1
 cases r1
 refine wpAny_truthy_bool ?_
 cases c with
 | true=>exact hb pins s1 σ H1 Q I1 q1
 | false=>exact ⟨.bl false,H1,I1,rfl,q1⟩
theorem zvi (ha:PE X a ta) (hb:PE X (.BoolOp .Or (b :: rest) pos) tb):PE X (.BoolOp .Or (a :: b :: rest) pos) (zvf ta tb):=by
 intro pins s σ H Q I h
 refine BoolOp_or (thn (ha pins s σ H _ I h) fun v s1 ⟨x,H1,I1,r1,q1⟩=>?_)
 obtain ⟨c,rfl,q1⟩:=q1
 cases r1
 refine wpAny_truthy_bool ?_
 cases c with
 | false=>exact hb pins s1 σ H1 Q I1 q1
 | true=>exact ⟨.bl true,H1,I1,rfl,q1⟩
noncomputable def tIf (t:TT) (ta tb:TE):TE:=fun σ H Q=>t σ H fun c H1=>if c=true then ta σ H1 Q else tb σ H1 Q
theorem zvj {c:Expr}(hc:PT X c tA) (ha:PE X a ta) (hb:PE X b tb):PE X (.IfExp c a b pos) (tIf tA ta tb):=by
 intro pins s σ H Q I h
 refine wpAny_IfExp (thn (hc pins s σ H _ I h) fun d s1 ⟨H1,I1,q1⟩=>?_)
 cases d with
 | true=>exact ha pins s1 σ H1 Q I1 q1
 | false=>exact hb pins s1 σ H1 Q I1 q1
end
noncomputable def SqL (K:QFg) (H:Hp) (a:Addr) (xs:List V):Prop :=
 Rd H a (.lst xs) ∨
  ∃(o:Obj) (its:Array Value) (n:Nat),K.lookup a=some o/\o.cls=.type "list"/\o.dict=none/\o.data=.seq its n/\its.size<=sizeLine/\Vals xs its.toList
noncomputable def SqT (K:QFg) (H:Hp) (a:Addr) (xs:List V):Prop :=
 Rd H a (.tup xs) ∨
  ∃(o:Obj) (its:Array Value) (n:Nat),K.lookup a=some o/\o.cls=.type "tuple"/\o.data=.seq its n/\its.size<=sizeLine/\Vals xs its.toList
noncomputable def zvk:Value->Option V
 | .none=>some .non
 | .bool b=>some (.bl b)
 | .int i _=>some (.int i)
 | .str x _=>some (.str x)
 | .bytes b _=>some (.byt b)
 | .float b _=>some (.flt b)
 | .ref a=>some (.ref a)
 | .type n=>some (.ty n)
 | _=>none
theorem RelV.abs {x:V}{u:Value}(r:RelV x u):zvk u=some x:=by
 cases x with
 | non=>cases r;rfl
 | bl _=>cases r;rfl
 | int _=>obtain ⟨t,rfl⟩:=r;rfl
 | str _=>obtain ⟨t,rfl⟩:=r;rfl
 | byt _=>obtain ⟨t,rfl⟩:=r;rfl
 | flt _=>obtain ⟨t,rfl⟩:=r;rfl
 | ref _=>cases r;rfl
 | ty _=>cases r;rfl
theorem RelV.inj {x y:V}{u:Value}(r:RelV x u) (q:RelV y u):x=y:=qoi (r.abs.symm.trans q.abs)
theorem Vals.inj:∀{xs ys:List V}{us:List Value},Vals xs us->Vals ys us->xs=ys
 | _,_,_,.nil,.nil=>rfl
 | _,_,_,.cons r t,.cons r' t'=>by rw [r.inj r',Vals.inj t t']
section
variable {X:Cx}{pins:List (Addr × Obj)}{σ:St}{H:Hp}{s:Shared}{a:Addr}{xs ys:List V}
theorem SqT.of {K:QFg}(h:H a=some (.tup xs)):SqT K H a xs:=.inl (.inl h)
theorem Inv.list (I:Inv X pins σ H s) (h:SqL X.K H a xs):∃its:List Value,Vals xs its/\PlainL s.heap a its.toArray/\xs.length<=sizeLine:=by
 rcases h with h|⟨o,its,n,hk,hc,hd,hs,hz,r⟩
 ·obtain ⟨z,its,n,r,e⟩:=h.ok I.hok
  exact ⟨its,r,⟨_,n,e,rfl,rfl,rfl⟩,z⟩
 ·refine ⟨its.toList,r,⟨o,n,I.kIn a o hk,hc,hd,by simpa using hs⟩,?_⟩
  have e:=r.length
  simp only [Array.length_toList] at e
  omega
theorem Inv.tuple (I:Inv X pins σ H s) (h:SqT X.K H a xs):∃its:List Value,Vals xs its/\IsTup s.heap a its.toArray/\xs.length<=sizeLine:=by
 rcases h with h|⟨o,its,n,hk,hc,hs,hz,r⟩
 ·obtain ⟨z,its,r,p⟩:=h.ok I.hok
  exact ⟨its,r,p,z⟩
 ·refine ⟨its.toList,r,⟨o,I.kIn a o hk,hc,n,by simpa using hs⟩,?_⟩
  have e:=r.length
  simp only [Array.length_toList] at e
  omega
theorem Inv.list_inj (I:Inv X pins σ H s) (h:SqL X.K H a xs) (h':SqL X.K H a ys):xs=ys:=by
 obtain ⟨its,r,⟨o,n,e,_,_,d⟩,_⟩:=I.list h
 obtain ⟨its',r',⟨o',n',e',_,_,d'⟩,_⟩:=I.list h'
 rw [e] at e';cases e'
 rw [d] at d'
 injection d' with d1 _
 have:its=its':=by simpa using congrArg Array.toList d1
 subst this
 exact r.inj r'
theorem Inv.tuple_inj (I:Inv X pins σ H s) (h:SqT X.K H a xs) (h':SqT X.K H a ys):xs=ys:=by
 obtain ⟨its,r,⟨o,e,_,n,d⟩,_⟩:=I.tuple h
 obtain ⟨its',r',⟨o',e',_,n',d'⟩,_⟩:=I.tuple h'
 rw [e] at e';cases e'
 rw [d] at d'
 injection d' with d1 _
 have:its=its':=by simpa using congrArg Array.toList d1
 subst this
 exact r.inj r'
end
noncomputable abbrev Cx.wish (X:Cx) (E:Value->Shared->Prop):Cx:={ X with xe:=E }
noncomputable abbrev Cx.nox (X:Cx):Cx:=X.wish fun _ _=>False
theorem Cx.Ok.wish {X:Cx}(ok:X.Ok) (E:Value->Shared->Prop):(X.wish E).Ok :=
 ⟨ok.mod,ok.kind,ok.glob,ok.blt,ok.above,ok.inj,ok.has,ok.cab,ok.hd,ok.frames,ok.stk,ok.exf,ok.bs,ok.bsz,ok.noex,ok.exfs,ok.funs,ok.frf⟩
theorem Cx.Ok.unwish {X:Cx}{E:Value->Shared->Prop}(ok:(X.wish E).Ok):X.Ok :=
 ⟨ok.mod,ok.kind,ok.glob,ok.blt,ok.above,ok.inj,ok.has,ok.cab,ok.hd,ok.frames,ok.stk,ok.exf,ok.bs,ok.bsz,ok.noex,ok.exfs,ok.funs,ok.frf⟩
section
variable {X:Cx}{pins:List (Addr × Obj)}{σ:St}{H:Hp}{s:Shared}{E:Value->Shared->Prop}
theorem Inv.wish (I:Inv X pins σ H s) (E:Value->Shared->Prop):Inv (X.wish E) pins σ H s:=⟨I.ok.wish E,I.os,I.bare,I.base,I.loc,I.cell,I.free,I.freeC,I.pin,I.hok,I.len⟩
theorem Inv.unwish (I:Inv (X.wish E) pins σ H s):Inv X pins σ H s:=⟨I.ok.unwish,I.os,I.bare,I.base,I.loc,I.cell,I.free,I.freeC,I.pin,I.hok,I.len⟩
theorem SP.unwish {D:Ends}{f:Flow}{s':Shared}(h:SP (X.wish E) pins D f s'):SP X pins D f s':=by
 cases f with
 | next=>obtain ⟨σ',H',I,q⟩:=h;exact ⟨σ',H',I.unwish,q⟩
 | brk=>obtain ⟨σ',H',I,q⟩:=h;exact ⟨σ',H',I.unwish,q⟩
 | cont=>obtain ⟨σ',H',I,q⟩:=h;exact ⟨σ',H',I.unwish,q⟩
 | ret u=>obtain ⟨v,σ',H',I,r,q⟩:=h;exact ⟨v,σ',H',I.unwish,r,q⟩
theorem PSs.nox {st:List Stmt}{t:TS}(h:PSs X.nox st t):PSs X st t:=fun pins s σ H D I hw =>
 wpAny_mono (h pins s σ H D (I.wish _) hw) (fun _ _ q=>q.unwish) fun _ _ z=>False.elim z
end
section
variable {X:Cx}{st:Stmt}{rest:List Stmt}{t u:TS}{e:Expr}{te:TE}{pos:Pos}
noncomputable def zvl:TS:=fun D σ H=>D.nx σ H
noncomputable def zvm (t u:TS):TS:=fun D σ H=>t { D with nx:=u D } σ H
theorem zvn:PSs X [] zvl:=fun _ _ σ H _ I h=>wpAny_execs_nil ⟨σ,H,I,h⟩
theorem zvo (h1:PS X st t) (h2:PSs X rest u):PSs X (st :: rest) (zvm t u):=by
 intro pins s σ H D I h
 refine wpAny_execs_cons (thn (h1 pins s σ H { D with nx:=u D } I h) fun f s1 q=>?_)
 cases f with
 | next =>
  obtain ⟨σ',H',I',q⟩:=q
  exact h2 pins s1 σ' H' D I' q
 | ret v=>exact q
 | brk=>exact q
 | cont=>exact q
theorem zvp (h1:PS X st t):PSs X [st] t:=by
 intro pins s σ H D I h
 refine wpAny_execs_cons (thn (h1 pins s σ H D I h) fun f s1 q=>?_)
 cases f with
 | next=>exact wpAny_execs_nil q
 | ret v=>exact q
 | brk=>exact q
 | cont=>exact q
noncomputable def zvq:TS:=fun D σ H=>D.bk σ H
theorem zvr:PS X (.Break pos) zvq:=fun _ _ σ H _ I h=>wpAny_Break ⟨σ,H,I,h⟩
theorem Inv.quiet {pins:List (Addr × Obj)}{σ:St}{H:Hp}{s:Shared}(I:Inv X pins σ H s):interactive X.env=false:=by simp [interactive,I.ok.kind]
noncomputable def zvs (te:TE):TS:=fun D σ H=>te σ H fun _ H1=>D.nx σ H1
theorem zvt (he:PE X e te) (hs:swapsWith e none pos.line X.env=pure false:=by rfl):PS X (.Expr e pos) (zvs te):=by
 intro pins s σ H D I h
 exact wpAny_Expr_any (thn (he pins s σ H _ I h) fun v s1 ⟨x,H1,I1,r1,q1⟩=>⟨σ,H1,I1,q1⟩) I.quiet hs
noncomputable def zvu (te:TE):TS:=fun D σ H=>te σ H D.rt
theorem zvv (he:PE X e te):PS X (.Return (some e) pos) (zvu te):=by
 intro pins s σ H D I h
 exact wpAny_Return_some (thn (he pins s σ H _ I h) fun v s1 ⟨x,H1,I1,r1,q1⟩=>⟨x,σ,H1,I1,r1,q1⟩)
noncomputable def zvw (c:TT) (t u:TS):TS:=fun D σ H=>c σ H fun b H1=>if b=true then t D σ H1 else u D σ H1
theorem zvx {c:Expr}{a b:List Stmt}{tc:TT}(hc:PT X c tc) (ha:PSs X a t) (hb:PSs X b u):PS X (.If c a b pos) (zvw tc t u):=by
 intro pins s σ H D I h
 refine wpAny_If (thn (hc pins s σ H _ I h) fun d s1 ⟨H1,I1,q1⟩=>?_)
 cases d with
 | true=>exact ha pins s1 σ H1 D I1 q1
 | false=>exact hb pins s1 σ H1 D I1 q1
noncomputable def zvy:TS:=fun _ _ _=>False
theorem zvz:PS X st zvy:=fun _ _ _ _ _ _ h=>h.elim
end
noncomputable abbrev TG:=V->St->Hp->(St->Hp->Prop)->Prop
noncomputable abbrev TGs:=List V->St->Hp->(St->Hp->Prop)->Prop
noncomputable def PG (X:Cx) (target:Expr) (t:TG):Prop :=
 ∀(pins:List (Addr × Obj)) (s:Shared) (σ:St) (H:Hp) (v:V) (u:Value) (Q:St->Hp->Prop),Inv X pins σ H s->RelV v u->t v σ H Q ->
  wpAny (model X.prog X.w) X.A (assign target X.env u) (fun _ s'=>∃σ' H',Inv X pins σ' H' s'/\Q σ' H') X.xe s
noncomputable def PGs (X:Cx) (ts:List Expr) (t:TGs):Prop :=
 ∀(pins:List (Addr × Obj)) (s:Shared) (σ:St) (H:Hp) (vs:List V) (us:List Value) (Q:St->Hp->Prop),Inv X pins σ H s->Vals vs us->t vs σ H Q ->
  wpAny (model X.prog X.w) X.A (assignInOrder ((assignEach ts X.env).map (·.2)) us) (fun _ s'=>∃σ' H',Inv X pins σ' H' s'/\Q σ' H') X.xe s
noncomputable abbrev TSet:=V->V->V->Hp->(Hp->Prop)->Prop
noncomputable def zn8 (X:Cx) (t:TSet):Prop :=
 ∀(pins:List (Addr × Obj)) (s:Shared) (σ:St) (H:Hp) (o i v:V) (ov iv u:Value) (Q:Hp->Prop),Inv X pins σ H s->RelV o ov->RelV i iv->RelV v u->t o i v H Q ->
  wpAny (model X.prog X.w) X.A (setItem ov iv u) (fun _ s'=>∃H',Inv X pins σ H' s'/\Q H') X.xe s
noncomputable abbrev TIp:=V->V->Hp->VK->Prop
noncomputable def PIp (X:Cx) (op:Operator) (t:TIp):Prop :=
 ∀(pins:List (Addr × Obj)) (s:Shared) (σ:St) (H:Hp) (x y:V) (v u:Value) (Q:VK),Inv X pins σ H s->RelV x v->RelV y u->t x y H Q ->
  wpAny (model X.prog X.w) X.A (inplaceOp op v u) (EP X pins σ Q) X.xe s
section
variable {X:Cx}{pos:Pos}
noncomputable def zk4 (i:Nat):TG:=fun v σ H Q=>Q (σ.set i (some v)) H
theorem zv0 {i:Nat}{x:Str}(hN:X.N.Nodup) (hi:X.N[i]? = some x) (hx:Loc X.env.scope x) (hf:X.fn x=true∨X.env.scope.names.lookup x=some .local:=by first|exact .inl rfl|exact .inr rfl|assumption):PG X (.Name x pos) (zk4 i):=by
 intro pins s σ H v u Q I r h
 exact wpAny_assign_Name (zk3 I hN hi hx r (fun s' I'=>⟨_,H,I',h⟩) hf)
noncomputable def zv1:TGs:=fun vs σ H Q=>vs=[]/\Q σ H
noncomputable def zv2 (t:TG) (u:TGs):TGs:=fun vs σ H Q=>∃v r,vs=v :: r/\t v σ H fun σ' H'=>u r σ' H' Q
theorem zv3:PGs X [] zv1:=by
 intro pins s σ H vs us Q I r h
 obtain ⟨e,h⟩:=h
 subst e
 cases r
 exact assignInOrder_nil ⟨σ,H,I,h⟩
theorem zv4 {e:Expr}{es:List Expr}{t:TG}{u:TGs}(h1:PG X e t) (h2:PGs X es u)
  (hs:(assignEach (e :: es) X.env).map (·.2)=assign e X.env :: (assignEach es X.env).map (·.2):=by rfl):PGs X (e :: es) (zv2 t u):=by
 intro pins s σ H vs us Q I r h
 obtain ⟨v,vr,e1,h⟩:=h
 subst e1
 cases r with
 | cons r rr =>
  rw [hs]
  refine assignInOrder_cons (thn (h1 pins s σ H _ _ _ I r h) fun _ s1 ⟨σ1,H1,I1,q1⟩=>?_)
  exact h2 pins s1 σ1 H1 _ _ Q I1 rr q1
noncomputable def zv5 (K:QFg) (n:Nat) (t:TGs):TG:=fun v σ H Q=>∃a xs,v=.ref a/\SqT K H a xs/\xs.length=n/\t xs σ H Q
theorem zv6 {es:List Expr}{k:Nat}{t:TGs}{n:Nat}(hc:X.calm=true) (h:PGs X es t)
  (hn:(assignEach es X.env).length=n:=by rfl) (hst:(assignEach es X.env).findIdx? (·.1)=none:=by rfl):PG X (.Tuple es k pos) (zv5 X.K n t):=by
 intro pins s σ H v u Q I r hw
 obtain ⟨a,xs,e1,hq,hl,hw⟩:=hw
 subst e1
 cases r
 obtain ⟨its,rv,ht,hz⟩:=I.tuple hq
 refine assign_Tuple_tuple (I.ok.hd hc) ht (by simp [hn,←hl,rv.length]) hst fun h' hx=>?_
 have I1:Inv X pins σ H { s with heap:=h' }:=I.kept (t':=s.toks) fun b o e=>hx b o (Nat.ne_of_lt (Heap.lt_size e)) e
 exact h pins _ σ H xs _ Q I1 (by simpa using rv) hw
noncomputable def zv7 (to ti:TE) (t:TSet):TG:=fun v σ H Q=>to σ H fun o H1=>ti σ H1 fun i H2=>t o i v H2 fun H3=>Q σ H3
theorem zv8 {o i:Expr}{to ti:TE}{t:TSet}(ho:PE X o to) (hi:PE X i ti) (hs:zn8 X t)
  (ha:∀v,assign (.Subscript o i pos) X.env v=(do
   let ov ←holding [v] (eval o X.env)
   let iv ←holding [v,ov] (eval i X.env)
   standAt pos
   holding [v,ov,iv] (setItem ov iv v)
   release [v,ov,iv] []):=by intro _;rfl):PG X (.Subscript o i pos) (zv7 to ti t):=by
 intro pins s σ H v u Q I r h
 rw [ha]
 refine wpAny_bind (wpAny_holding (thn (ho pins s σ H _ I h) fun ov s1 ⟨x,H1,I1,r1,q1⟩=>?_))
 refine wpAny_bind (wpAny_holding (thn (hi pins s1 σ H1 _ I1 q1) fun iv s2 ⟨y,H2,I2,r2,q2⟩=>?_))
 refine wpAny_bind (wpAny_standAt (wpAny_bind (wpAny_holding (thn (hs pins s2 σ H2 x y v ov iv u _ I2 r1 r2 r q2) fun _ s3 ⟨H3,I3,q3⟩=>?_))))
 exact wpAny_release ⟨σ,H3,I3,q3⟩
noncomputable def zk5 (te:TE) (g:TG):TS:=fun D σ H=>te σ H fun x H1=>g x σ H1 D.nx
theorem zv9 {tg e:Expr}{te:TE}{g:TG}(he:PE X e te) (hg:PG X tg g) (hs:swapsWithSole [tg] e pos.line X.env=pure false:=by rfl) (hw:swappedStores [tg] e X.env=pure none:=by rfl)
  (h1:(assignEach [tg] X.env).map (·.2)=[assign tg X.env]:=by rfl):PS X (.Assign [tg] e pos) (zk5 te g):=by
 intro pins s σ H D I h
 refine wpAny_Assign_stores (thn (he pins s σ H _ I h) fun v s1 ⟨x,H1,I1,r1,q1⟩=>?_) hs hw
 rw [h1]
 exact thn (hg pins s1 σ H1 x v _ I1 r1 q1) fun _ s2 q=>q
theorem zwa {i:Nat}{x:Str}{e:Expr}{te:TE}{pos':Pos}(hN:X.N.Nodup) (hi:X.N[i]? = some x) (hx:Loc X.env.scope x) (he:PE X e te) (hs:swapsWith e (some (.Name x pos')) pos.line X.env=pure false:=by rfl) (hf:X.fn x=true∨X.env.scope.names.lookup x=some .local:=by first|exact .inl rfl|exact .inr rfl|assumption) :
  PS X (.Assign [.Name x pos'] e pos) (zk5 te (zk4 i)):=by
 intro pins s σ H D I h
 refine wpAny_Assign_Name (thn (he pins s σ H _ I h) fun v s1 ⟨y,H1,I1,r1,q1⟩=>?_) hs
 exact zk3 I1 hN hi hx r1 (fun s2 I2=>⟨_,H1,I2,q1⟩) hf
noncomputable def zwb (i:Nat) (te:TE) (ti:TIp):TS:=fun D σ H=>∃x,σ[i]? = some (some x)/\te σ H fun y H1=>ti x y H1 fun z H2=>D.nx (σ.set i (some z)) H2
theorem zwc {i:Nat}{x:Str}{e:Expr}{te:TE}{op:Operator}{ti:TIp}{pos':Pos}(hN:X.N.Nodup) (hi:X.N[i]? = some x) (hx:Loc X.env.scope x) (he:PE X e te) (ho:PIp X op ti) (hf:X.fn x=true∨X.env.scope.names.lookup x=some .local:=by first|exact .inl rfl|exact .inr rfl|assumption) :
  PS X (.AugAssign (.Name x pos') op e pos) (zwb i te ti):=by
 intro pins s σ H D I h
 obtain ⟨v,e1,h⟩:=h
 obtain ⟨m,hn,hl⟩:=I.loc
 have vis:Vis X.env.scope x:=by rcases hx with k|k;exact .inl k;exact .inr (.inl k)
 obtain ⟨u,r,l⟩:=hl i x v hi e1 vis
 refine wpAny_AugAssign_Name ?_
 have go:wpAny (model X.prog X.w) X.A (eval e X.env) (fun w s₂=>wpAny (model X.prog X.w) X.A (inplaceOp op u w) (fun r s₃=>wpAny (model X.prog X.w) X.A (storeName X.env x r) (fun _=>SP X pins D .next) X.xe s₃) X.xe s₂) X.xe s:=by
  refine thn (he pins s σ H _ I h) fun w s1 ⟨y,H1,I1,r1,q1⟩=>?_
  refine thn (ho pins s1 σ H1 v y u w _ I1 r r1 q1) fun z s2 ⟨zv,H2,I2,r2,q2⟩=>?_
  exact zk3 I2 hN hi hx r2 (fun s3 I3=>⟨_,H2,I3,q2⟩) hf
 rcases l with ⟨hk,hm⟩|⟨hk,c,hc,hcell⟩
 ·exact wpAny_loadName_local I.ok.kind hk hn hm go
 ·rcases hk with hk|hk
  ·exact wpAny_loadName_cell I.ok.kind hk hc hcell go
  ·rcases hx with k|k
   ·have:X.env.scope.names.lookup x=some .free:=hk
    rw [k] at this;cases this
   ·have:X.env.scope.names.lookup x=some .free:=hk
    rw [k] at this;cases this
noncomputable def ipI (f:Int->Int->Int):TIp:=fun x y H Q=>∃i j,x=.int i/\y=.int j/\Q (.int (f i j)) H
theorem zwd:PIp X .Add (ipI fun i j=>i+j):=by
 intro pins s σ H x y v u Q I r1 r2 h
 obtain ⟨i,j,e1,e2,q⟩:=h
 subst e1;subst e2
 obtain ⟨t,rfl⟩:=r1
 obtain ⟨t',rfl⟩:=r2
 exact iadd_int ⟨.int _,H,I.tok _,⟨_,rfl⟩,q⟩
end
section
variable {X:Cx}{pos:Pos}
noncomputable def zwe (c:TT) (tb:TS):TS:=fun D σ H=>∃W:Nat->St->Hp->Prop,(∃m,W m σ H)/\∀m σ H,W m σ H ->
 c σ H fun b H1=>if b=true then ∃N:St->Hp->Prop,(∀σ' H',N σ' H'->∃m',m' < m/\W m' σ' H')/\tb { D with nx:=N,ct:=N,bk:=D.nx } σ H1 else D.nx σ H1
theorem zwf {c:Expr}{body:List Stmt}{tc:TT}{tb:TS}(hp:PassesOwn (model X.prog X.w) X.A X.env X.xe) (hc:PT X c tc) (hb:PSs X body tb):PS X (.While c body [] pos) (zwe tc tb):=by
 intro pins s σ H D I h
 obtain ⟨W,⟨m0,w0⟩,turn⟩:=h
 refine wpAny_While (codeAny_whileLoop (fun n s'=>∃σ' H',Inv X pins σ' H' s'/\W n σ' H') ?_ m0 ⟨σ,H,I,w0⟩)
 rintro n s1 ⟨σ1,H1,I1,w1⟩
 refine wpAny_passesOwn hp (thn (hc pins s1 σ1 H1 _ I1 (turn n σ1 H1 w1)) fun b s2 ⟨H2,I2,q2⟩=>?_)
 cases b with
 | true =>
  obtain ⟨N,hN,q2⟩:=q2
  rw [if_pos rfl]
  refine wpAny_passesOwn hp (thn (hb pins s2 σ1 H2 _ I2 q2) fun f s3 q3=>?_)
  cases f with
  | next =>
   obtain ⟨σ3,H3,I3,n3⟩:=q3
   obtain ⟨m',hm,w3⟩:=hN σ3 H3 n3
   exact ⟨m',hm,σ3,H3,I3,w3⟩
  | cont =>
   obtain ⟨σ3,H3,I3,n3⟩:=q3
   obtain ⟨m',hm,w3⟩:=hN σ3 H3 n3
   exact ⟨m',hm,σ3,H3,I3,w3⟩
  | brk=>exact q3
  | ret v=>exact q3
 | false =>
  rw [if_neg Bool.false_ne_true]
  exact wpAny_execs_nil ⟨σ1,H2,I2,q2⟩
end
structure It where
 go:Nat->Hp->Prop
 yld:Nat->Hp->V->Hp->Prop
 stop:Nat->Hp->Prop
noncomputable def zdf (X:Cx) (pins:List (Addr × Obj)) (H:Hp) (b:Addr):Prop :=
 H b=none/\b≠X.env.locals/\b ∉ X.fs/\(b∈X.ex∨X.s₀.heap.objs.size<=b)/\(∀x c,X.env.cells.lookup x=some c->c≠b)/\∀p∈X.pn++pins,p.1≠b
theorem Inv.fpOk {X:Cx}{pins:List (Addr × Obj)}{σ:St}{H H':Hp}{s:Shared}{b:Addr}(I:Inv X pins σ H s) (hb:s.heap.objs.size<=b) (hn:H' b=none):zdf X pins H' b:=by
 refine ⟨hn,Nat.ne_of_gt (Nat.lt_of_lt_of_le I.lt hb),I.nofs hb,.inr (Nat.le_trans I.sz hb),fun x c e z=>?_,fun p hp z=>?_⟩
 ·obtain ⟨v,q⟩:=I.cell x c e
  exact absurd (Nat.lt_of_lt_of_le q.lt (by rw [z];exact hb)) (Nat.lt_irrefl _)
 ·exact absurd (Nat.lt_of_lt_of_le (Heap.lt_size (I.pin p hp).1) (by rw [z];exact hb)) (Nat.lt_irrefl _)
structure Turn (P:Program) (w:World) (K:QFg) (tg:Expr) (J:It) (fp:List Addr) (it:Addr) (tn:Nat->Heap->Prop):Prop where
 mem:it∈fp
 obj:∀i h,tn i h->∀b∈fp,∃o,h.get? b=some o/\∀v,o.data≠.cell v
 keep:∀i h h',tn i h->(∀b∈fp,∀o,h.get? b=some o->h'.get? b=some o)->tn i h'
 item:∀(X:Cx),X.prog=P->X.w=w->X.K=K->X.calm=true->∀(i:Nat) (pins:List (Addr × Obj)) (s:Shared) (σ:St) (H:Hp) (E:Value->Shared->Prop),Inv X pins σ H s->(∀b∈fp,zdf X pins H b)->tn i s.heap->J.go i H ->
  wpAny (model P w) X.A (pyNext (.ref it)) (fun r s1=>∃u,r=some u /\
   wpAny (model P w) X.A (letOwnedTupleGo tg (.ref it) u) (fun _ s2=>∃x H',Inv X pins σ H' s2/\RelV x u/\J.yld i H x H'/\tn (i+1) s2.heap/\∀b∈fp,H' b=none) E s1) E s
 done:∀(X:Cx),X.prog=P->X.w=w->X.K=K->X.calm=true->∀(i:Nat) (pins:List (Addr × Obj)) (s:Shared) (σ:St) (H:Hp) (E:Value->Shared->Prop),Inv X pins σ H s->(∀b∈fp,zdf X pins H b)->tn i s.heap->J.stop i H ->
  wpAny (model P w) X.A (pyNext (.ref it)) (fun r s1=>r=none/\Inv X pins σ H s1) E s
 self:∀(A:Around) (i:Nat) (s:Shared) (Q:Value->Shared->Prop) (E:Value->Shared->Prop),tn i s.heap->Q (.ref it) s->wpAny (model P w) A (pyIter (.ref it)) Q E s
noncomputable abbrev TI:=St->Hp->(It->Hp->Prop)->Prop
noncomputable def PIE (X:Cx) (pins:List (Addr × Obj)) (σ:St) (tg:Expr) (R:It->Hp->Prop) (itv:Value) (s2:Shared):Prop :=
 ∃(it:Addr) (fp:List Addr) (tn:Nat->Heap->Prop) (J:It) (H':Hp),itv=.ref it/\Inv X pins σ H' s2/\Turn X.prog X.w X.K tg J fp it tn/\tn 0 s2.heap/\(∀b∈fp,zdf X pins H' b)/\R J H'
noncomputable def PI (X:Cx) (tg iter:Expr) (wi:TI):Prop :=
 ∀(pins:List (Addr × Obj)) (s:Shared) (σ:St) (H:Hp) (R:It->Hp->Prop),Inv X pins σ H s->wi σ H R ->
  wpAny (model X.prog X.w) X.A (eval iter X.env) (fun v s1=>wpAny (model X.prog X.w) X.A (pyIter v) (PIE X pins σ tg R) X.xe s1) X.xe s
theorem zk6 {M:Model}{A:Around}{E:Value->Shared->Prop}{s:Shared}{tg:Expr}{it:Addr}{u:Value}{o:Obj}{n:String}{vs:Array Value}{Q:Unit->Shared->Prop}(ho:s.heap.get? it=some o) (hc:o.cls=.type n) (hd:o.data=.fields vs)
  (hn:["enumerate","zip","dict_itemiterator","dict_reverseitemiterator","odict_iterator","itertools.zip_longest","itertools.pairwise"].contains n=false) (hQ:Q () s):wpAny M A (letOwnedTupleGo tg (.ref it) u) Q E s:=by
 unfold letOwnedTupleGo
 cases tg <;> first
  | exact wpAny_pure hQ
  | (cases u <;> first
    | exact wpAny_pure hQ
    | (refine wpAny_bind (wpAny_load ho ?_)
       rw [hc,hd]
       show wpAny M A (if (["enumerate","zip","dict_itemiterator","dict_reverseitemiterator","odict_iterator","itertools.zip_longest","itertools.pairwise"].contains n && vs[0]? == some (rawInt _))=true then _ else _) Q E s
       rw [if_neg (by intro h;rw [hn,Bool.false_and] at h;cases h)]
       exact wpAny_pure hQ))
noncomputable def Itl (K:QFg) (a:Addr):It :=
 ⟨fun i H=>∃xs x,SqL K H a xs/\xs[i]? = some x,fun i H x H'=>H' = H/\∀xs,SqL K H a xs->xs[i]? = some x,fun i H=>∃xs,SqL K H a xs/\xs.length<=i⟩
noncomputable def Itt (K:QFg) (a:Addr):It :=
 ⟨fun i H=>∃xs x,SqT K H a xs/\xs[i]? = some x,fun i H x H'=>H' = H/\∀xs,SqT K H a xs->xs[i]? = some x,fun i H=>∃xs,SqT K H a xs/\xs.length<=i⟩
noncomputable def Itr (lo:Int) (n:Nat):It:=⟨fun i _=>i<n,fun i H x H'=>H' = H/\x=.int (lo+i),fun i _=>n<=i⟩
theorem zwg {P:Program}{w:World}{K:QFg}{tg:Expr}(a it:Addr):Turn P w K tg (Itl K a) [it] it (fun i h=>h.IsListIter it a i) where
 mem:=by simp
 obj:=fun i h st b hb=>by
  have e:b=it:=by simpa using hb
  subst e
  obtain ⟨o,e,c,d⟩:=st
  exact ⟨o,e,fun v z=>by rw [d] at z;cases z⟩
 keep:=fun i h h' st k=>st.at fun o e=>k it (by simp) o e
 item:=by
  intro X hP hw hK hc i pins s σ H E I hf st hg
  subst hP hw hK
  obtain ⟨xs,x,hq,hx⟩:=hg
  obtain ⟨its,rv,p,hz⟩:=I.list hq
  obtain ⟨u,hu,ru⟩:=rv.get hx
  obtain ⟨f0,f1,f2,f3,f4,f5⟩:=hf it (by simp)
  refine wpAny_pyNext_list_item st p.isList (x:=u) (by simpa using hu) fun h' st' sb=>?_
  have I1:Inv X pins σ H { s with heap:=h' }:=I.turned (t':=s.toks) (fun b o hb e=>(sb.2 b hb).trans e) f0 f1 f3 f4 f5
  obtain ⟨o,e,c,d⟩:=id st'
  exact ⟨u,rfl,zk6 (s:={ s with heap:=h' }) e c d (by decide) ⟨x,H,I1,ru,⟨rfl,fun ys hy=>by rw [I.list_inj hy hq];exact hx⟩,st',fun b hb=>(hf b hb).1⟩⟩
 done:=by
  intro X hP hw hK hc i pins s σ H E I hf st hg
  subst hP hw hK
  obtain ⟨xs,hq,hx⟩:=hg
  obtain ⟨its,rv,p,hz⟩:=I.list hq
  obtain ⟨f0,f1,f2,f3,f4,f5⟩:=hf it (by simp)
  have hl:=rv.length
  exact wpAny_pyNext_list_end (I.ok.hd hc) st p.isList (by simp;omega) fun h' eb=>⟨rfl,I.turned (t':=s.toks) (fun b o hb e=>eb b o hb e) f0 f1 f3 f4 f5⟩
 self:=fun _ _ _ _ _ st h=>wpAny_pyIter_listiter st h
theorem zwh {P:Program}{w:World}{K:QFg}{tg:Expr}(a it:Addr):Turn P w K tg (Itt K a) [it] it (fun i h=>h.IsTupleIter it a i) where
 mem:=by simp
 obj:=fun i h st b hb=>by
  have e:b=it:=by simpa using hb
  subst e
  obtain ⟨o,e,c,d⟩:=st
  exact ⟨o,e,fun v z=>by rw [d] at z;cases z⟩
 keep:=fun i h h' st k=>st.at fun o e=>k it (by simp) o e
 item:=by
  intro X hP hw hK hc i pins s σ H E I hf st hg
  subst hP hw hK
  obtain ⟨xs,x,hq,hx⟩:=hg
  obtain ⟨its,rv,p,hz⟩:=I.tuple hq
  obtain ⟨u,hu,ru⟩:=rv.get hx
  obtain ⟨f0,f1,f2,f3,f4,f5⟩:=hf it (by simp)
  refine wpAny_pyNext_tuple_item st (show s.heap.IsTuple a its.toArray from p) (x:=u) (by simpa using hu) fun h' st' sb=>?_
  have I1:Inv X pins σ H { s with heap:=h' }:=I.turned (t':=s.toks) (fun b o hb e=>(sb.2 b hb).trans e) f0 f1 f3 f4 f5
  obtain ⟨o,e,c,d⟩:=id st'
  exact ⟨u,rfl,zk6 (s:={ s with heap:=h' }) e c d (by decide) ⟨x,H,I1,ru,⟨rfl,fun ys hy=>by rw [I.tuple_inj hy hq];exact hx⟩,st',fun b hb=>(hf b hb).1⟩⟩
 done:=by
  intro X hP hw hK hc i pins s σ H E I hf st hg
  subst hP hw hK
  obtain ⟨xs,hq,hx⟩:=hg
  obtain ⟨its,rv,p,hz⟩:=I.tuple hq
  obtain ⟨f0,f1,f2,f3,f4,f5⟩:=hf it (by simp)
  have hl:=rv.length
  exact wpAny_pyNext_tuple_end (I.ok.hd hc) st (show s.heap.IsTuple a its.toArray from p) (by simp;omega) fun h' eb=>⟨rfl,I.turned (t':=s.toks) (fun b o hb e=>eb b o hb e) f0 f1 f3 f4 f5⟩
 self:=fun _ _ _ _ _ st h=>wpAny_pyIter_tupleiter st h
theorem zwi {P:Program}{w:World}{K:QFg}{tg:Expr}(it:Addr) (lo:Int) (n:Nat):Turn P w K tg (Itr lo n) [it] it (fun i h=>IsRangeIter h it (lo+(i:Nat)*1) ((n:Int)-(i:Nat)) 1) where
 mem:=by simp
 obj:=fun i h st b hb=>by
  have e:b=it:=by simpa using hb
  subst e
  exact ⟨_,st,fun v z=>by
   have z':Data.fields _=Data.cell v:=z
   cases z'⟩
 keep:=fun i h h' st k=>k it (by simp) _ st
 item:=by
  intro X hP hw hK hc i pins s σ H E I hf st hg
  subst hP hw hK
  obtain ⟨f0,f1,f2,f3,f4,f5⟩:=hf it (by simp)
  have W:=Walks.range (prog:=X.prog) (w:=X.w) (I.ok.hd hc) it lo 1 n
  refine W.item i s _ _ hg st fun v h' tk hv st' kk=>?_
  obtain ⟨t,rfl⟩:=hv
  have I1:Inv X pins σ H { s with heap:=h',toks:=tk }:=I.turned (fun b o hb e=>kk b o (by simpa using hb) e) f0 f1 f3 f4 f5
  refine ⟨_,rfl,zk6 (s:={ s with heap:=h',toks:=tk }) (n:="range_iterator") st' rfl rfl (by decide) ⟨.int (lo+i),H,I1,⟨t,?_⟩,⟨rfl,rfl⟩,st',fun b hb=>(hf b hb).1⟩⟩
  rw [Int.mul_one]
 done:=by
  intro X hP hw hK hc i pins s σ H E I hf st hg
  subst hP hw hK
  obtain ⟨f0,f1,f2,f3,f4,f5⟩:=hf it (by simp)
  exact wpAny_pyNext_range_end (I.ok.hd hc) st (by have:n<=i:=hg;omega) fun h' eb=>⟨rfl,I.turned (t':=s.toks) (fun b o hb e=>eb b o hb e) f0 f1 f3 f4 f5⟩
 self:=fun _ _ _ _ _ st h=>wpAny_pyIter_rangeiter st h
section
variable {X:Cx}{tg:Expr}
noncomputable def zwj (K:QFg) (tl:TE):TI:=fun σ H R=>tl σ H fun x H1=>∃a,x=.ref a/\(∃xs,SqL K H1 a xs)/\R (Itl K a) H1
noncomputable def zwk (K:QFg) (tl:TE):TI:=fun σ H R=>tl σ H fun x H1=>∃a,x=.ref a/\(∃xs,SqT K H1 a xs)/\R (Itt K a) H1
theorem zn9 {l:Expr}{tl:TE}(hl:PE X l tl):PI X tg l (zwj X.K tl):=by
 intro pins s σ H R I h
 refine thn (hl pins s σ H _ I h) fun v s1 ⟨x,H1,I1,r1,q1⟩=>?_
 obtain ⟨a,e,⟨xs,hq⟩,q⟩:=q1
 subst e
 cases r1
 obtain ⟨its,rv,p,hz⟩:=I1.list hq
 refine wpAny_pyIter_list p.isList ?_
 refine ⟨s1.heap.objs.size,[s1.heap.objs.size],_,_,H1,rfl,I1.kept (t':=s1.toks) fun b o e=>qps _ e,zwg a _,⟨_,Heap.get?_push_size _ rfl,rfl,rfl⟩,fun b hb=>?_,q⟩
 have e:b=s1.heap.objs.size:=by simpa using hb
 subst e
 exact I1.fpOk (qlr _) (I1.hok.fresh (qlr _))
theorem zoa {l:Expr}{tl:TE}(hl:PE X l tl):PI X tg l (zwk X.K tl):=by
 intro pins s σ H R I h
 refine thn (hl pins s σ H _ I h) fun v s1 ⟨x,H1,I1,r1,q1⟩=>?_
 obtain ⟨a,e,⟨xs,hq⟩,q⟩:=q1
 subst e
 cases r1
 obtain ⟨its,rv,p,hz⟩:=I1.tuple hq
 refine wpAny_pyIter_tuple (show s1.heap.IsTuple a its.toArray from p) ?_
 refine ⟨s1.heap.objs.size,[s1.heap.objs.size],_,_,H1,rfl,I1.kept (t':=s1.toks) fun b o e=>qps _ e,zwh a _,⟨_,Heap.get?_push_size _ rfl,rfl,rfl⟩,fun b hb=>?_,q⟩
 have e:b=s1.heap.objs.size:=by simpa using hb
 subst e
 exact I1.fpOk (qlr _) (I1.hok.fresh (qlr _))
theorem zob {pins:List (Addr × Obj)}{σ:St}{H:Hp}{s:Shared}{R:It->Hp->Prop}{E:Value->Shared->Prop}{lo hi:Int}{t u v:Tok}{tk:Nat}(I:Inv X pins σ H s) (h1:-(2 ^ 62)<=lo) (h2:lo<2 ^ 62) (h3:-(2 ^ 62)<=hi) (h4:hi<2 ^ 62)
  (q:R (Itr lo (hi-lo).toNat) H):wpAny (model X.prog X.w) X.A (pyIter (.ref s.heap.objs.size)) (PIE X pins σ tg R) E { s with heap:=s.heap.push { cls:=.type "range",data:=.fields #[.int lo t,.int hi u,.int 1 v] },toks:=tk }:=by
 refine wpAny_pyIter_range (IsRange.new ..) (small_one h1 h2 h3 h4) ?_
 have I1:Inv X pins σ H { s with heap:=s.heap.push { cls:=.type "range",data:=.fields #[.int lo t,.int hi u,.int 1 v] },toks:=tk }:=I.kept fun b o e=>qps _ e
 refine ⟨(s.heap.push { cls:=.type "range",data:=.fields #[.int lo t,.int hi u,.int 1 v] }).objs.size,[(s.heap.push { cls:=.type "range",data:=.fields #[.int lo t,.int hi u,.int 1 v] }).objs.size],_,_,H,rfl,
  I1.kept (t':=tk) fun b o e=>qps _ e,zwi _ lo (hi-lo).toNat,?_,fun b hb=>?_,q⟩
 ·have e1:lo+((0:Nat):Int)*1=lo:=by simp
  have e2:(((hi-lo).toNat:Nat):Int)-((0:Nat):Int)=Builtin.Range.rangeSize lo hi 1:=by rw [rangeSize_one];split <;> omega
  show IsRangeIter _ _ (lo+((0:Nat):Int)*1) ((((hi-lo).toNat:Nat):Int)-((0:Nat):Int)) 1
  rw [e1,e2]
  exact Heap.get?_push_size _ rfl
 ·have e:b=(s.heap.push { cls:=.type "range",data:=.fields #[.int lo t,.int hi u,.int 1 v] }).objs.size:=by simpa using hb
  subst e
  exact I1.fpOk (qlr _) (I1.hok.fresh (qlr _))
noncomputable def zwl (ta:TA):TI:=fun σ H R=>ta σ H fun vs H1=>∃j:Int,vs=[.int j]/\-(2 ^ 62)<=j/\j<2 ^ 62/\R (Itr 0 j.toNat) H1
noncomputable def zwm (ta:TA):TI:=fun σ H R=>ta σ H fun vs H1=>∃i j:Int,vs=[.int i,.int j]/\(-(2 ^ 62)<=i/\i<2 ^ 62/\-(2 ^ 62)<=j/\j<2 ^ 62)/\R (Itr i (j-i).toNat) H1
theorem zoc {a:Expr}{ta:TA}{p pos:Pos}(hg:Gl X "range") (hm:X.mg "range" = none) (ha:PA X [a] ta) (hs:starEach [a] X.env=[(false,eval a X.env)]:=by rfl):PI X tg (.Call (.Name "range" p) [a] [] pos) (zwl ta):=by
 intro pins s σ H R I h
 refine Call_ (zfv I hg hm boot_range (PyProof.Rows.callWith_type1 (thn (ha pos pins s σ H _ I h) fun us s1 ⟨vs,H1,I1,r1,q1⟩=>?_) hs rfl))
 obtain ⟨j,e,q1,q2,q⟩:=q1
 subst e
 cases r1 with
 | cons r rr =>
  cases rr
  obtain ⟨t,rfl⟩:=r
  exact call_range_1 (zob I1 (by omega) (by omega) q1 q2 (by simpa using q))
theorem zwn {a b:Expr}{ta:TA}{p pos:Pos}(hg:Gl X "range") (hm:X.mg "range" = none) (ha:PA X [a,b] ta) (hs:starEach [a,b] X.env=[(false,eval a X.env),(false,eval b X.env)]:=by rfl) (hs2:starEach [b] X.env=[(false,eval b X.env)]:=by rfl) :
  PI X tg (.Call (.Name "range" p) [a,b] [] pos) (zwm ta):=by
 intro pins s σ H R I h
 refine Call_ (zfv I hg hm boot_range (PyProof.Rows.callWith_type1 (thn (ha pos pins s σ H _ I h) fun us s1 ⟨vs,H1,I1,r1,q1⟩=>?_) (by rw [hs,hs2]) (by rw [hs2];rfl)))
 obtain ⟨i,j,e,⟨q1,q2,q3,q4⟩,q⟩:=q1
 subst e
 cases r1 with
 | cons r rr =>
  cases rr with
  | cons r' rr =>
   cases rr
   obtain ⟨t,rfl⟩:=r
   obtain ⟨t',rfl⟩:=r'
   exact call_range_2 (zob I1 q1 q2 q3 q4 q)
noncomputable def zwo (wi:TI) (g:TG) (tb:TS):TS:=fun D σ H=>wi σ H fun J H1=>∃W:Nat->Nat->St->Hp->Prop,(∃m,W 0 m σ H1)/\∀i m σ H,W i m σ H ->
 (J.stop i H/\D.nx σ H)∨(J.go i H/\∃N:St->Hp->Prop,(∀σ' H',N σ' H'->∃m',m' < m/\W (i+1) m' σ' H')/\∀x H',J.yld i H x H'->g x σ H' fun σ2 H2=>tb { D with nx:=N,ct:=N,bk:=D.nx } σ2 H2)
noncomputable def zib (fp:List Addr) (h:Heap):List (Addr × Obj):=fp.filterMap fun b=>(h.get? b).map fun o=>(b,o)
theorem zjb {fp:List Addr}{h:Heap}{b:Addr}{o:Obj}(hb:b∈fp) (e:h.get? b=some o):(b,o)∈zib fp h:=List.mem_filterMap.mpr ⟨b,hb,by rw [e];rfl⟩
theorem zwp {fp:List Addr}{h:Heap}{p:Addr × Obj}(hp:p∈zib fp h):p.1∈fp/\h.get? p.1=some p.2:=by
 obtain ⟨b,hb,e⟩:=List.mem_filterMap.mp hp
 cases q:h.get? b with
 | none=>rw [q] at e;cases e
 | some o =>
  rw [q] at e
  have e':(b,o)=p:=qoi e
  subst e'
  exact ⟨hb,q⟩
theorem Inv.pinned {pins:List (Addr × Obj)}{σ:St}{H:Hp}{s:Shared}{fp:List Addr}(I:Inv X pins σ H s) (hf:∀b∈fp,zdf X pins H b) (ho:∀b∈fp,∃o,s.heap.get? b=some o/\∀v,o.data≠.cell v):Inv X (pins++zib fp s.heap) σ H s :=
 I.pins_of fun p hp=>(List.mem_append.mp hp).elim (fun z=>I.pin p (List.mem_append_right _ z)) fun z=>by
  obtain ⟨hb,e⟩:=zwp z
  obtain ⟨f0,f1,f2,_⟩:=hf p.1 hb
  obtain ⟨o,e',d⟩:=ho p.1 hb
  rw [e] at e';cases e'
  exact ⟨e,f0,f1,f2,d⟩
theorem Inv.unpinned {pins pl:List (Addr × Obj)}{σ:St}{H:Hp}{s:Shared}(I:Inv X (pins++pl) σ H s):Inv X pins σ H s:=I.pins_of fun p hp=>I.pin p (List.mem_append_right _ (List.mem_append_left _ hp))
theorem zjc {iter:Expr}{body:List Stmt}{wi:TI}{g:TG}{tb:TS}{pos:Pos}(hp:PassesOwn (model X.prog X.w) X.A X.env X.xe) (hc:X.calm=true) (hi:PI X tg iter wi) (hg:PG X tg g) (hb:PSs X body tb)
  (hs:∀x,foldedSetIterable iter X.env x=pure x:=by intro _;rfl):PS X (.For tg iter body [] pos) (zwo wi g tb):=by
 intro pins s σ H D I h
 refine wpAny_For (thn (hi pins s σ H _ I h) fun v s1 h1=>thn h1 fun itv s2 h2=>?_) hs
 obtain ⟨it,fp,tn,J,H2,e,I2,T,st2,f2,W,⟨m0,w0⟩,turn⟩:=h2
 subst e
 have stat:∀{H':Hp},(∀b∈fp,H' b=none)->∀b∈fp,zdf X pins H' b:=fun hn b hb=>⟨hn b hb,(f2 b hb).2⟩
 refine codeAny_forLoop_any (fun n s'=>∃i σ' H',Inv X pins σ' H' s'/\tn i s'.heap/\(∀b∈fp,H' b=none)/\W i n σ' H') ?_ m0 ⟨0,σ,H2,I2,st2,fun b hb=>(f2 b hb).1,w0⟩
 rintro n s3 ⟨i,σ3,H3,I3,st3,fr3,w3⟩
 rcases turn i n σ3 H3 w3 with ⟨stop,qn⟩|⟨go,N,hN,step⟩
 ·refine wpAny_passesOwn hp (thn (T.done X rfl rfl rfl hc i pins s3 σ3 H3 X.xe I3 (stat fr3) st3 stop) fun r s4 ⟨hr,I4⟩=>?_)
  subst hr
  exact wpAny_execs_nil ⟨σ3,H3,I4,qn⟩
 ·refine wpAny_passesOwn hp (thn (T.item X rfl rfl rfl hc i pins s3 σ3 H3 X.xe I3 (stat fr3) st3 go) fun r s4 ⟨u,hr,h4⟩=>?_)
  subst hr
  refine wpAny_passesOwn hp (thn h4 fun _ s5 ⟨x,H5,I5,r5,y5,st5,fr5⟩=>?_)
  have I5':=I5.pinned (stat fr5) (T.obj _ _ st5)
  refine wpAny_passesOwn hp (thn (hg _ s5 σ3 H5 x u _ I5' r5 (step x H5 y5)) fun _ s6 ⟨σ6,H6,I6,q6⟩=>?_)
  refine wpAny_passesOwn hp (thn (hb _ s6 σ6 H6 _ I6 q6) fun f s7 q7=>?_)
  have again:∀{σ7:St} {H7:Hp},Inv X (pins++zib fp s5.heap) σ7 H7 s7->N σ7 H7->∃m,m<n/\∃i σ' H',Inv X pins σ' H' s7/\tn i s7.heap/\(∀b∈fp,H' b=none)/\W i m σ' H':=fun {σ7 H7} I7 n7=>by
   obtain ⟨m',hm,w7⟩:=hN σ7 H7 n7
   refine ⟨m',hm,i+1,σ7,H7,I7.unpinned,T.keep _ _ _ st5 fun b hb o e=>(I7.pin (b,o) (List.mem_append_right _ (List.mem_append_right _ (zjb hb e)))).1,fun b hb=>?_,w7⟩
   obtain ⟨o,e,d⟩:=T.obj _ _ st5 b hb
   exact (I7.pin (b,o) (List.mem_append_right _ (List.mem_append_right _ (zjb hb e)))).2.1
  cases f with
  | next=>obtain ⟨σ7,H7,I7,n7⟩:=q7;exact again I7 n7
  | cont=>obtain ⟨σ7,H7,I7,n7⟩:=q7;exact again I7 n7
  | brk=>obtain ⟨σ7,H7,I7,q7⟩:=q7;exact ⟨σ7,H7,I7.unpinned,q7⟩
  | ret v=>obtain ⟨x7,σ7,H7,I7,r7,q7⟩:=q7;exact ⟨x7,σ7,H7,I7.unpinned,r7,q7⟩
end
noncomputable abbrev R2:=V->V->Hp->VK->Prop
noncomputable def OpR (X:Cx) (f:Value->Value->Sem Value) (r:R2):Prop :=
 ∀(pins:List (Addr × Obj)) (s:Shared) (σ:St) (H:Hp) (x y:V) (v u:Value) (Q:VK),Inv X pins σ H s->RelV x v->RelV y u->r x y H Q ->
  wpAny (model X.prog X.w) X.A (f v u) (EP X pins σ Q) X.xe s
noncomputable def UnR (X:Cx) (f:Value->Sem Value) (r:V->Hp->VK->Prop):Prop :=
 ∀(pins:List (Addr × Obj)) (s:Shared) (σ:St) (H:Hp) (x:V) (v:Value) (Q:VK),Inv X pins σ H s->RelV x v->r x H Q ->
  wpAny (model X.prog X.w) X.A (f v) (EP X pins σ Q) X.xe s
noncomputable def CallR (X:Cx) (f:Value) (r:List V->Hp->VK->Prop):Prop :=
 ∀(pins:List (Addr × Obj)) (s:Shared) (σ:St) (H:Hp) (xs:List V) (us:List Value) (Q:VK),Inv X pins σ H s->Vals xs us->r xs H Q ->
  wpAny (model X.prog X.w) X.A (call f us) (EP X pins σ Q) X.xe s
noncomputable def tOp (r:R2) (ta tb:TE):TE:=fun σ H Q=>ta σ H fun x H1=>tb σ H1 fun y H2=>r x y H2 Q
noncomputable def tUn (r:V->Hp->VK->Prop) (ta:TE):TE:=fun σ H Q=>ta σ H fun x H1=>r x H1 Q
noncomputable def rI (C:Int->Int->Prop) (g:Int->Int->V):R2:=fun x y H Q=>∃i j,x=.int i/\y=.int j/\C i j/\Q (g i j) H
noncomputable def rI0 (g:Int->Int->V):R2:=fun x y H Q=>∃i j,x=.int i/\y=.int j/\Q (g i j) H
noncomputable def rU (g:Int->V):V->Hp->VK->Prop:=fun x H Q=>∃i,x=.int i/\Q (g i) H
section
variable {X:Cx}{a b c:Expr}{ta tb tc:TE}{pos:Pos}
theorem zk7 (ha:PE X a ta) (hb:PE X b tb) {pins:List (Addr × Obj)}{s:Shared}{σ:St}{H:Hp}{R:V->V->Hp->Prop}(I:Inv X pins σ H s)
  (h:ta σ H fun x H1=>tb σ H1 fun y H2=>R x y H2) {Q:Value->Shared->Prop} {f:Value->Value->Sem Value}
  (hf:∀v u s2 x y H2,Inv X pins σ H2 s2->RelV x v->RelV y u->R x y H2->wpAny (model X.prog X.w) X.A (f v u) Q X.xe s2) :
  wpAny (model X.prog X.w) X.A (eval a X.env) (fun v s₁=>wpAny (model X.prog X.w) X.A (eval b X.env) (fun u s₂=>wpAny (model X.prog X.w) X.A (f v u) Q X.xe s₂) X.xe s₁) X.xe s:=by
 refine thn (ha pins s σ H _ I h) fun v s1 ⟨x,H1,I1,r1,q1⟩=>?_
 refine thn (hb pins s1 σ H1 _ I1 q1) fun u s2 ⟨y,H2,I2,r2,q2⟩=>?_
 exact hf v u s2 x y H2 I2 r1 r2 q2
theorem zwq {op:Operator}{r:R2}(ho:OpR X (binaryOp op) r) (ha:PE X a ta) (hb:PE X b tb):PE X (.BinOp a op b pos) (tOp r ta tb):=by
 intro pins s σ H Q I h
 exact wpAny_BinOp (zk7 ha hb I h fun v u s2 x y H2 I2 rx ry q=>ho pins s2 σ H2 x y v u Q I2 rx ry q)
theorem zwr {op:UnaryOp}{r:V->Hp->VK->Prop}(ho:UnR X (unaryOp op) r) (ha:PE X a ta):PE X (.UnaryOp op a pos) (tUn r ta):=by
 intro pins s σ H Q I h
 exact UnaryOp_ (thn (ha pins s σ H _ I h) fun v s1 ⟨x,H1,I1,r1,q1⟩=>ho pins s1 σ H1 x v Q I1 r1 q1)
theorem opI {f:Value->Value->Sem Value}{C:Int->Int->Prop}{g:Int->Int->Int}
  (rule:∀(i j:Int) (t u:Tok) (s:Shared) (Q:Value->Shared->Prop) (E:Value->Shared->Prop),C i j->Q (.int (g i j) s.toks) { s with toks:=s.toks+1 }->wpAny (model X.prog X.w) X.A (f (.int i t) (.int j u)) Q E s) :
  OpR X f (rI C fun i j=>.int (g i j)):=by
 intro pins s σ H x y v u Q I rx ry h
 obtain ⟨i,j,rfl,rfl,hc,q⟩:=h
 obtain ⟨t,rfl⟩:=rx
 obtain ⟨t',rfl⟩:=ry
 exact rule i j t t' s _ _ hc ⟨.int (g i j),H,I.tok _,⟨_,rfl⟩,q⟩
theorem zod {f:Value->Value->Sem Value}{g:Int->Int->Int}
  (rule:∀(i j:Int) (t u:Tok) (s:Shared) (Q:Value->Shared->Prop) (E:Value->Shared->Prop),Q (.int (g i j) s.toks) { s with toks:=s.toks+1 }->wpAny (model X.prog X.w) X.A (f (.int i t) (.int j u)) Q E s) :
  OpR X f (rI0 fun i j=>.int (g i j)):=by
 intro pins s σ H x y v u Q I rx ry h
 obtain ⟨i,j,rfl,rfl,q⟩:=h
 obtain ⟨t,rfl⟩:=rx
 obtain ⟨t',rfl⟩:=ry
 exact rule i j t t' s _ _ ⟨.int (g i j),H,I.tok _,⟨_,rfl⟩,q⟩
theorem zk8 {f:Value->Value->Sem Value}{g:Int->Int->Bool}
  (rule:∀(i j:Int) (t u:Tok) (s:Shared) (Q:Value->Shared->Prop) (E:Value->Shared->Prop),Q (.bool (g i j)) s->wpAny (model X.prog X.w) X.A (f (.int i t) (.int j u)) Q E s) :
  OpR X f (rI0 fun i j=>.bl (g i j)):=by
 intro pins s σ H x y v u Q I rx ry h
 obtain ⟨i,j,rfl,rfl,q⟩:=h
 obtain ⟨t,rfl⟩:=rx
 obtain ⟨t',rfl⟩:=ry
 exact rule i j t t' s _ _ ⟨.bl (g i j),H,I,rfl,q⟩
noncomputable def zjd (i j:Int):Prop:=0<j/\j<1073741824
noncomputable def zje (i j:Int):Prop:=0<=j/\j<=1000000/\i.natAbs<2 ^ 64
noncomputable def CMul (i j:Int):Prop:=(-(2 ^ 64)<i/\i<2 ^ 64)∨(-(2 ^ 64)<j/\j<2 ^ 64)
theorem CMul.ok {i j:Int}(h:CMul i j):IntMulOk i j:=by
 rcases h with ⟨h1,h2⟩|⟨h1,h2⟩
 ·exact .of_left (intBits_le_64 h1 h2)
 ·exact .of_right (intBits_le_64 h1 h2)
theorem op_add:OpR X (binaryOp .Add) (rI0 fun i j=>.int (i+j)):=zod fun _ _ _ _ _ _ _ q=>add_int q
theorem zws:OpR X (binaryOp .Sub) (rI0 fun i j=>.int (i-j)):=zod fun _ _ _ _ _ _ _ q=>sub_int q
theorem op_mul:OpR X (binaryOp .Mult) (rI CMul fun i j=>.int (i*j)):=opI fun _ _ _ _ _ _ _ hc q=>mul_int q hc.ok
theorem zwt:OpR X (binaryOp .FloorDiv) (rI zjd fun i j=>.int (i / j)):=opI fun i j _ _ _ _ _ hc q=>by
 have h1:(0:Int)<j:=hc.1
 have h2:j<1073741824:=hc.2
 exact floordiv_int (by omega) (by rw [Int.fdiv_eq_ediv_of_nonneg i (by omega)];exact q) (.inl (PyProof.noPylong_small (by omega)))
theorem zwu:OpR X (binaryOp .Mod) (rI (fun _ j=>0<j) fun i j=>.int (i % j)):=opI fun i j _ _ _ _ _ hc q=>by
 have h1:(0:Int)<j:=hc
 exact mod_int' (by omega) (by rw [Int.fmod_eq_emod_of_nonneg i (by omega)];exact q)
theorem zwv:OpR X (binaryOp .Pow) (rI zje fun i j=>.int (i ^ j.toNat)):=opI fun _ _ _ _ _ _ _ hc q=>pow_int_small hc.1 hc.2.1 hc.2.2 q
theorem unI {f:Value->Sem Value}{g:Int->Int}
  (rule:∀(i:Int) (t:Tok) (s:Shared) (Q:Value->Shared->Prop) (E:Value->Shared->Prop),Q (.int (g i) s.toks) { s with toks:=s.toks+1 }->wpAny (model X.prog X.w) X.A (f (.int i t)) Q E s) :
  UnR X f (rU fun i=>.int (g i)):=by
 intro pins s σ H x v Q I rx h
 obtain ⟨i,rfl,q⟩:=h
 obtain ⟨t,rfl⟩:=rx
 exact rule i t s _ _ ⟨.int (g i),H,I.tok _,⟨_,rfl⟩,q⟩
theorem zww:UnR X (unaryOp .USub) (rU fun i=>.int (-i)):=unI fun _ _ _ _ _ q=>neg_int q
end
noncomputable def zk9:V->V->Bool
 | .non,.non=>true | .non,.int _=>true | .int _,.non=>true | .non,.bl _=>true | .bl _,.non=>true | .non,.str _=>true | .str _,.non=>true
 | .int _,.int _=>true | .bl _,.bl _=>true | .str _,.str _=>true | .byt _,.byt _=>true
 | .int _,.str _=>true | .str _,.int _=>true | .bl _,.str _=>true | .str _,.bl _=>true
 | _,_=>false
noncomputable def rEq:R2:=fun x y H Q=>zk9 x y=true/\Q (.bl (decide (x=y))) H
noncomputable def rNe:R2:=fun x y H Q=>zk9 x y=true/\Q (.bl (!decide (x=y))) H
theorem zoe {i j:Int}:decide (V.int i=V.int j)=(i == j):=by
 rw [Bool.eq_iff_iff]
 simp
theorem zof {i j:Bool}:decide (V.bl i=V.bl j)=(i == j):=by
 rw [Bool.eq_iff_iff]
 simp
theorem zog {i j:Str}:decide (V.str i=V.str j)=(i == j):=by
 rw [Bool.eq_iff_iff]
 simp
theorem zoh {i j:Array UInt8}:decide (V.byt i=V.byt j)=(i.toList == j.toList):=by
 rw [Bool.eq_iff_iff]
 cases i
 cases j
 simp
section
variable {X:Cx}{a b c:Expr}{ta tb tc:TE}{pos:Pos}
theorem za8 {pins:List (Addr × Obj)}{σ:St}{H:Hp}{s:Shared}{Q:VK}{k k':Bool}(I:Inv X pins σ H s) (q:Q (.bl k) H) (e:k=k'):EP X pins σ Q (.bool k') s:=by
 subst e
 exact ⟨.bl k,H,I,rfl,q⟩
theorem zoi:OpR X (compareOp .Eq) rEq:=by
 intro pins s σ H x y v u Q I rx ry h
 obtain ⟨hs,q⟩:=h
 cases x with
 | non =>
  cases rx
  cases y with
  | non=>cases ry;exact PySem.EqNone.eq_none_none (za8 I q (by simp))
  | bl j=>cases ry;exact PySem.EqNone.eq_none_bool (za8 I q (by simp))
  | int j=>obtain ⟨t',rfl⟩:=ry;exact PySem.EqNone.eq_none_int (za8 I q (by simp))
  | str j=>obtain ⟨t',rfl⟩:=ry;exact PySem.EqNone.eq_none_str (za8 I q (by simp))
  | _=>exact absurd (show false=true from hs) Bool.false_ne_true
 | bl i =>
  cases rx
  cases y with
  | non=>cases ry;exact PySem.EqNone.eq_bool_none (za8 I q (by simp))
  | bl j=>cases ry;exact eq_bool (za8 I q zof)
  | str j=>obtain ⟨t',rfl⟩:=ry;exact PySem.EqMixed.eq_bool_str (za8 I q (by simp))
  | _=>exact absurd (show false=true from hs) Bool.false_ne_true
 | int i =>
  obtain ⟨t,rfl⟩:=rx
  cases y with
  | non=>cases ry;exact PySem.EqNone.eq_int_none (za8 I q (by simp))
  | int j=>obtain ⟨t',rfl⟩:=ry;exact eq_int (za8 I q zoe)
  | str j=>obtain ⟨t',rfl⟩:=ry;exact PySem.EqMixed.eq_int_str (za8 I q (by simp))
  | _=>exact absurd (show false=true from hs) Bool.false_ne_true
 | str i =>
  obtain ⟨t,rfl⟩:=rx
  cases y with
  | non=>cases ry;exact PySem.EqNone.eq_str_none (za8 I q (by simp))
  | bl j=>cases ry;exact PySem.EqMixed.eq_str_bool (za8 I q (by simp))
  | int j=>obtain ⟨t',rfl⟩:=ry;exact PySem.EqMixed.eq_str_int (za8 I q (by simp))
  | str j=>obtain ⟨t',rfl⟩:=ry;exact eq_str (za8 I q zog)
  | _=>exact absurd (show false=true from hs) Bool.false_ne_true
 | byt i =>
  obtain ⟨t,rfl⟩:=rx
  cases y with
  | byt j=>obtain ⟨t',rfl⟩:=ry;exact PySem.W.eq_bytes (za8 I q zoh)
  | _=>exact absurd (show false=true from hs) Bool.false_ne_true
 | _=>cases y <;> exact absurd (show false=true from hs) Bool.false_ne_true
theorem zoj:OpR X (compareOp .NotEq) rNe:=by
 intro pins s σ H x y v u Q I rx ry h
 obtain ⟨hs,q⟩:=h
 cases x with
 | non =>
  cases rx
  cases y with
  | non=>cases ry;exact PySem.EqNone.ne_none_none (za8 I q (by simp))
  | bl j=>cases ry;exact PySem.EqNone.ne_none_bool (za8 I q (by simp))
  | int j=>obtain ⟨t',rfl⟩:=ry;exact PySem.EqNone.ne_none_int (za8 I q (by simp))
  | str j=>obtain ⟨t',rfl⟩:=ry;exact PySem.EqNone.ne_none_str (za8 I q (by simp))
  | _=>exact absurd (show false=true from hs) Bool.false_ne_true
 | bl i =>
  cases rx
  cases y with
  | non=>cases ry;exact PySem.EqNone.ne_bool_none (za8 I q (by simp))
  | bl j=>cases ry;exact ne_bool (za8 I q (congrArg not zof))
  | str j=>obtain ⟨t',rfl⟩:=ry;exact PySem.EqMixed.ne_bool_str (za8 I q (by simp))
  | _=>exact absurd (show false=true from hs) Bool.false_ne_true
 | int i =>
  obtain ⟨t,rfl⟩:=rx
  cases y with
  | non=>cases ry;exact PySem.EqNone.ne_int_none (za8 I q (by simp))
  | int j=>obtain ⟨t',rfl⟩:=ry;exact ne_int (za8 I q (congrArg not zoe))
  | str j=>obtain ⟨t',rfl⟩:=ry;exact PySem.EqMixed.ne_int_str (za8 I q (by simp))
  | _=>exact absurd (show false=true from hs) Bool.false_ne_true
 | str i =>
  obtain ⟨t,rfl⟩:=rx
  cases y with
  | non=>cases ry;exact PySem.EqNone.ne_str_none (za8 I q (by simp))
  | bl j=>cases ry;exact PySem.EqMixed.ne_str_bool (za8 I q (by simp))
  | int j=>obtain ⟨t',rfl⟩:=ry;exact PySem.EqMixed.ne_str_int (za8 I q (by simp))
  | str j=>obtain ⟨t',rfl⟩:=ry;exact ne_str (za8 I q (congrArg not zog))
  | _=>exact absurd (show false=true from hs) Bool.false_ne_true
 | byt i =>
  obtain ⟨t,rfl⟩:=rx
  cases y with
  | byt j=>obtain ⟨t',rfl⟩:=ry;exact PySem.W.ne_bytes (za8 I q (congrArg not zoh))
  | _=>exact absurd (show false=true from hs) Bool.false_ne_true
 | _=>cases y <;> exact absurd (show false=true from hs) Bool.false_ne_true
theorem zok:OpR X (compareOp .Lt) (rI0 fun i j=>.bl (decide (i<j))):=zk8 fun _ _ _ _ _ _ _ q=>lt_int q
theorem zwx:OpR X (compareOp .Gt) (rI0 fun i j=>.bl (decide (j<i))):=zk8 fun _ _ _ _ _ _ _ q=>gt_int q
theorem zwy:OpR X (compareOp .GtE) (rI0 fun i j=>.bl (decide (j<=i))):=zk8 fun _ _ _ _ _ _ _ q=>ge_int q
theorem zol:OpR X (compareOp .Is) (fun x y H Q=>y=.non/\Q (.bl (decide (x=.non))) H):=by
 intro pins s σ H x y v u Q I rx ry h
 obtain ⟨rfl,q⟩:=h
 cases ry
 refine is_none_gen (za8 I q ?_)
 cases x <;> first
  | (cases rx;rfl)
  | (obtain ⟨t,rfl⟩:=rx;rfl)
theorem zom:OpR X (compareOp .IsNot) (fun x y H Q=>y=.non/\Q (.bl (!decide (x=.non))) H):=by
 intro pins s σ H x y v u Q I rx ry h
 obtain ⟨rfl,q⟩:=h
 cases ry
 refine isnot_none_gen (za8 I q ?_)
 cases x <;> first
  | (cases rx;rfl)
  | (obtain ⟨t,rfl⟩:=rx;rfl)
theorem OpR.or {f:Value->Value->Sem Value}{r r':R2}(h:OpR X f r) (h':OpR X f r'):OpR X f (fun x y H Q=>r x y H Q∨r' x y H Q):=by
 intro pins s σ H x y v u Q I rx ry q
 rcases q with q|q
 ·exact h pins s σ H x y v u Q I rx ry q
 ·exact h' pins s σ H x y v u Q I rx ry q
theorem zco (b:Expr) {op:CmpOp}(h:op≠.In:=by decide) (h2:op≠.NotIn:=by decide):behindInMarks op b=false:=by
 have e1:(op == CmpOp.In)=false:=by cases op <;> first|rfl|exact absurd rfl h
 have e2:(op == CmpOp.NotIn)=false:=by cases op <;> first|rfl|exact absurd rfl h2
 cases b <;> simp [behindInMarks,e1,e2]
theorem zwz {op:CmpOp}{r:R2}(ho:OpR X (compareOp op) r) (ha:PE X a ta) (hb:PE X b tb) (hm:behindInMarks op b=false):PE X (.Compare a [op] [b] pos) (tOp r ta tb):=by
 intro pins s σ H Q I h
 exact wpAny_Compare1 (zk7 ha hb I h fun v u s2 x y H2 I2 rx ry q=>ho pins s2 σ H2 x y v u Q I2 rx ry q) hm
noncomputable def zw0 (t:TE):TT:=fun σ H Q=>t σ H fun x H'=>∃k,x=.bl k/\Q k H'
theorem zw1 {op:CmpOp}{r:R2}(ho:OpR X (compareOp op) r) (ha:PE X a ta) (hb:PE X b tb) (hm:behindInMarks op b=false):PT X (.Compare a [op] [b] pos) (zw0 (tOp r ta tb)):=by
 intro pins s σ H Q I h
 refine wpAny_isTrue_Compare1 (thn (ha pins s σ H _ I h) fun v s1 ⟨x,H1,I1,r1,q1⟩=>thn (hb pins s1 σ H1 _ I1 q1) fun u s2 ⟨y,H2,I2,r2,q2⟩ =>
  thn (ho pins s2 σ H2 x y v u _ I2 r1 r2 q2) fun c s3 ⟨z,H3,I3,r3,k,e,q3⟩=>?_) hm
 subst e
 cases r3
 exact wpAny_truthy_bool ⟨H3,I3,q3⟩
theorem zg4:(sizeLine:Nat)<2 ^ 63:=by rw [sizeLine_eq];decide
theorem op_add_str:OpR X (binaryOp .Add) (fun x y H Q=>∃i j,x=.str i/\y=.str j/\i.length+j.length<=sizeLine/\Q (.str (i++j)) H):=by
 intro pins s σ H x y v u Q I rx ry h
 obtain ⟨i,j,rfl,rfl,hz,q⟩:=h
 obtain ⟨t,rfl⟩:=rx
 obtain ⟨t',rfl⟩:=ry
 exact add_str (fun t' tk=>⟨.str (i++j),H,I.tok _,⟨_,rfl⟩,q⟩) hz
theorem zfw {x:V}{us:List Value}(r:Vals [x] us):∃u,us=[u]/\RelV x u:=by
 cases r with
 | cons r1 r2=>cases r2;exact ⟨_,rfl,r1⟩
theorem zw2:CallR X (.builtin "abs") (fun xs H Q=>∃i,xs=[.int i]/\Q (.int (if i<0 then -i else i)) H):=by
 intro pins s σ H xs us Q I r h
 obtain ⟨i,rfl,q⟩:=h
 obtain ⟨u,rfl,t,rfl⟩:=zfw r
 exact call_abs_int fun u tk=>⟨.int (if i<0 then -i else i),H,I.tok _,⟨_,rfl⟩,q⟩
theorem zw3:CallR X (.type "int") (fun xs H Q=>(∃i,xs=[.int i]/\Q (.int i) H)∨∃k,xs=[.bl k]/\Q (.int (if k then 1 else 0)) H):=by
 intro pins s σ H xs us Q I r h
 rcases h with ⟨i,rfl,q⟩|⟨k,rfl,q⟩
 ·obtain ⟨u,rfl,t,rfl⟩:=zfw r
  exact call_int_int ⟨.int i,H,I,⟨_,rfl⟩,q⟩
 ·obtain ⟨u,rfl,r1⟩:=zfw r
  cases r1
  exact call_int_bool ⟨.int (if k then 1 else 0),H,I.tok _,⟨_,rfl⟩,q⟩
end
section
variable {prog:Program}{w:World}{A:Around}{E:Value->Shared->Prop}{s:Shared}{K:QFg}{x dx C f:Addr}{mA:Str->Option Value}{name:Str}{v:Value}
end
section
variable {P:Program}{w:World}{H H':Hp}{h h':Heap}{a C dx:Addr}{fs fs':List (Str × V)}
end
section
variable {X:Cx}{pins:List (Addr × Obj)}{σ:St}{H:Hp}{s:Shared}{a C dx:Addr}{fs:List (Str × V)}{f:Str}{v:V}{A:Around}{E:Value->Shared->Prop}
end
section
variable {X:Cx}{o e value:Expr}{f:Str}{pos pos' tpos:Pos}{ta tv:TE}
end
section
variable {X:Cx}{pins:List (Addr × Obj)}{σ:St}{H:Hp}{s:Shared}{A:Around}{E:Value->Shared->Prop}{Q:Value->Shared->Prop}{c:Value}{b:Bool}
end
structure Room (k:Nat) (A:Around):Prop where
 hd:A.handled=none
 dp:A.depth+3*k+5<recursionLimit
 un:A.units+16*k+200<cLine
 gd:A.guards=some []
theorem Room.mono {j k:Nat}{A:Around}(r:Room k A) (h:j<=k):Room j A:=⟨r.hd,by have:=r.dp;omega,by have:=r.un;omega,r.gd⟩
theorem Room.deeper {k:Nat}{A:Around}(r:Room (k+1) A) (env:Env):Room k (A.deeper env) :=
 ⟨r.hd,by have:=r.dp;show A.depth+1+3*k+5<_;omega,by have:=r.un;show A.units+3+16*k+200<_;omega,r.gd⟩
theorem Room.depth {k:Nat}{A:Around}(r:Room k A):A.depth<recursionLimit:=by have:=r.dp;omega
noncomputable def zw4:TA:=fun _ H Q=>Q [] H
noncomputable def zw5 (ta:TE) (tr:TA):TA:=fun σ H Q=>ta σ H fun x H1=>tr σ H1 fun xs H2=>Q (x :: xs) H2
section
variable {X:Cx}{e:Expr}{es:List Expr}{te:TE}{t:TA}{pos:Pos}
theorem zon:PA X [] zw4:=fun _ _ _ _ H Q I h=>Calls.spliced_nil ⟨[],H,I,.nil,h⟩
theorem zoo (ha:PE X e te) (hr:PA X es t) (hs:starEach (e :: es) X.env=(false,eval e X.env) :: starEach es X.env:=by rfl):PA X (e :: es) (zw5 te t):=by
 intro pos pins s σ H Q I h
 rw [hs]
 show wpAny _ _ (spliced ((false,eval e X.env) :: backTo pos (starEach es X.env))) _ _ s
 refine Calls.spliced_cons (thn (ha pins s σ H _ I h) fun u s1 ⟨x,H1,I1,r1,q1⟩=>?_)
 exact thn (hr pos pins s1 σ H1 _ I1 q1) fun us s2 ⟨xs,H2,I2,r2,q2⟩=>⟨x :: xs,H2,I2,.cons r1 r2,q2⟩
noncomputable def zw6 (t:TA):TE:=fun σ H Q=>t σ H fun xs H1=>xs.length<=sizeLine/\∀p,H1 p=none->Q (.ref p) (upd H1 p (.tup xs))
noncomputable def zw7 (t:TA):TE:=fun σ H Q=>t σ H fun xs H1=>xs.length<=sizeLine/\∀p,H1 p=none->Q (.ref p) (upd H1 p (.lst xs))
theorem zw8 {x1}(h:PA X es t):PE X (.Tuple es x1 pos) (zw6 t):=by
 intro pins s σ H Q I hq
 refine wpAny_Tuple_spliced (thn (h pos pins s σ H _ I hq) fun us s1 ⟨xs,H1,I1,r,z,q⟩=>⟨by rw [←r.length];exact z,?_⟩)
 have hf:H1 s1.heap.objs.size=none:=I1.hok.fresh (qlr _)
 refine ⟨.ref s1.heap.objs.size,upd H1 s1.heap.objs.size (.tup xs),I1.laid (t':=s1.toks) (fun b u e=>qps _ e) (qlr _) ?_,rfl,q _ hf⟩
 exact ⟨z,us,r,⟨_,Heap.get?_push_size _ rfl,rfl,_,rfl⟩⟩
theorem zw9 (h:PA X es t):PE X (.List es pos) (zw7 t):=by
 intro pins s σ H Q I hq
 refine wpAny_List_spliced (thn (h pos pins s σ H _ I hq) fun us s1 ⟨xs,H1,I1,r,z,q⟩=>⟨by rw [←r.length];exact z,?_⟩)
 have hf:H1 s1.heap.objs.size=none:=I1.hok.fresh (qlr _)
 refine ⟨.ref s1.heap.objs.size,upd H1 s1.heap.objs.size (.lst xs),I1.laid (t':=s1.toks) (fun b u e=>qps _ e) (qlr _) ?_,rfl,q _ hf⟩
 exact ⟨z,us,0,r,Heap.get?_push_size _ rfl⟩
end
noncomputable abbrev Sp:=List V->Hp->VK->XK->Prop
noncomputable abbrev CXT:=List Env->Hp->Shared->XK->Value->Shared->Prop
structure Env0 (P:Program) (w:World) (K:QFg) (mg:Str->Option Value) (base:Heap) (A:Around) (outer:List Env) (s:Shared) (H:Hp):Prop where
 frames:A.frames=some outer
 mod:Mod K mg base
 bs:∀b o,base.get? b=some o->s.heap.get? b=some o/\H b=none
 bsz:base.objs.size<=s.heap.objs.size
 funs:s.heap.FunFrames base outer
 frf:∀b∈frs outer,H b=none
 hok:HOk P w H s.heap
 bare:AllBare s.gens
noncomputable def CE (outer:List Env) (P:Program) (w:World) (H:Hp) (s:Shared) (Q:VK) (u:Value) (s':Shared):Prop :=
 ∃v H',s'.os=s.os/\AllBare s'.gens/\Un (frs outer) [] H H' s.heap s'.heap/\HOk P w H' s'.heap/\RelV v u/\Q v H'
noncomputable def CR (CX:CXT) (outer:List Env) (P:Program) (w:World) (H:Hp) (s:Shared) (Q:VK) (E:XK) (r:Result) (s':Shared):Prop :=
 match r with
 | .ok (.ret u)=>CE outer P w H s Q u s'
 | .ok _=>False
 | .error e=>CX outer H s E e s'
structure FnOk (P:Program) (w:World) (K:QFg) (mg:Str->Option Value) (base:Heap) (CX:CXT) (k:Nat) (f:Addr) (fd:FuncData) (ps:List Str) (sp:Sp):Prop where
 len:∀vs H Q E,sp vs H Q E->vs.length=ps.length
 run:∀(A:Around) (outer:List Env) (s:Shared) (H:Hp) (args:Args) (us:List Value) (vs:List V) (Q:VK) (E:XK),Room k A->Env0 P w K mg base A outer s H->BindsTo s fd args (ps.zip us)->Vals vs us->sp vs H Q E ->
  codeAny (model P w) A (.call (.ref f) args) (CR CX outer P w H s Q E) s
section
variable {X:Cx}{pins:List (Addr × Obj)}{σ:St}{H:Hp}{s s':Shared}
theorem Inv.env0 (I:Inv X pins σ H s):Env0 X.prog X.w X.K X.mg X.base X.A X.stack s H :=
 ⟨I.ok.frames,I.ok.mod,I.bs,Nat.le_trans I.ok.bsz I.sz,I.stack,I.stkFree,I.hok,I.bare⟩
theorem Inv.after {Q:VK}{u:Value}(I:Inv X pins σ H s) (h:CE X.stack X.prog X.w H s Q u s'):EP X pins σ Q u s':=by
 obtain ⟨v,H',os,bare,un,hok,r,q⟩:=h
 obtain ⟨hh,g,d,t,os'⟩:=s'
 obtain rfl:os' = s.os:=os
 exact ⟨v,H',I.call (h':=hh) (g':=g) (d':=d) (t':=t) (ch:=[]) un hok bare (fun b z=>absurd z (by simp)),r,q⟩
end
noncomputable def zop (sp:Sp) (dvs:List V) (E:XK) (t:TA):TE:=fun σ H Q=>t σ H fun vs H1=>sp (vs++dvs) H1 Q E
noncomputable def Binds (K:QFg) (fd:FuncData) (ps:List Str) (ds:List Value):Prop :=
 ∀(s:Shared) (us:List Value),K.In s.heap->(us++ds).length=ps.length->BindsTo s fd ⟨us,[]⟩ (ps.zip (us++ds))
theorem Binds.all {K:QFg}{fd:FuncData}{ps:List Str}(h:∀us:List Value,us.length=ps.length->bindArgs fd ⟨us,[]⟩=pure (ps.zip us)):Binds K fd ps []:=fun s us _ hl=>by
 rw [List.append_nil] at hl ⊢
 exact .of_eq (h us hl)
noncomputable def zla (CX:CXT) (X:Cx) (E:XK):Prop:=∀(pins:List (Addr × Obj)) (σ:St) (H:Hp) (s:Shared) (e:Value) (s':Shared),Inv X pins σ H s->CX X.stack H s E e s'->X.xe e s'
section
variable {X:Cx}{CX:CXT}{k:Nat}{f C:Addr}{fd:FuncData}{ps:List Str}{sp:Sp}{dvs:List V}{ds:List Value}{E:XK}{x m:Str}{p pos apos:Pos}{e o:Expr}{es:List Expr}{ta:TE}{t:TA}
theorem zoq {pins:List (Addr × Obj)}{σ:St}{H:Hp}{s:Shared}{Q:VK}{us:List Value}{vs:List V}(F:FnOk X.prog X.w X.K X.mg X.base CX k f fd ps sp) (hr:Room k X.A) (hb:Binds X.K fd ps ds) (hd:Vals dvs ds) (hx:zla CX X E)
  (I:Inv X pins σ H s) (r:Vals vs us) (h:sp (vs++dvs) H Q E):wpAny (model X.prog X.w) X.A (call (.ref f) us) (EP X pins σ Q) X.xe s:=by
 have r2:Vals (vs++dvs) (us++ds):=r.append hd
 have hl:(us++ds).length=ps.length:=by rw [←r2.length];exact F.len _ _ _ _ h
 refine wpAny_call (codeAny_mono (F.run X.A X.stack s H ⟨us,[]⟩ (us++ds) (vs++dvs) Q E hr I.env0 (hb s us I.kIn hl) r2 h) fun r s' hq=>?_)
 cases r with
 | error e=>exact hx pins σ H s e s' I hq
 | ok fl =>
  cases fl with
  | ret u=>exact I.after hq
  | next=>exact False.elim hq
  | brk=>exact False.elim hq
  | cont=>exact False.elim hq
theorem zxa (F:FnOk X.prog X.w X.K X.mg X.base CX k f fd ps sp) (hr:Room k X.A) (hg:Gl X x) (hm:X.mg x=some (.ref f)) (hk:PySem.W.keepIn X.K (.ref f)=true) (hb:Binds X.K fd ps ds) (hd:Vals dvs ds) (hx:zla CX X E)
  (ha:PA X (e :: es) t) (hdb:(x == ("__debug__":Str))=false:=by decide) (he:starEach (e :: es) X.env=(false,eval e X.env) :: starEach es X.env:=by rfl) (hpl:(backTo pos (starEach es X.env)).any (·.1)=false:=by rfl) :
  PE X (.Call (.Name x p) (e :: es) [] pos) (zop sp dvs E t):=by
 intro pins s σ H Q I h
 refine wpAny_Call_Name_kw (zn7 I hg hm ?_ hdb)
 refine PySem.W.callWith_K (h₀:=X.base) I.ok.mod.kin hk (thn (ha pos pins s σ H _ I h) fun us s1 ⟨vs,H1,I1,r,q⟩=>⟨I1.kIn,?_⟩) he hpl
 exact zoq F hr hb hd hx I1 r q
end
section
variable {X:Cx}{CX:CXT}{k:Nat}{f C:Addr}{fd:FuncData}{ps ks:List Str}{sp:Sp}{E:XK}{x m:Str}{p pos apos kpos:Pos}{e o:Expr}{es:List Expr}{kws:List Keyword}{te ta:TE}{t tk:TA}{nm:Option Str}
variable {g:List Value->List Value->List Value}{gV:List V->List V->List V}
end
structure FnScope (N P:List Str) (sc:Scope):Prop where
 kind:sc.kind=.function
 co:sc.isCoroutine=false
 gen:sc.isGenerator=false
 nd:N.Nodup
 pre:N.take P.length=P
 par:∀x∈P,sc.names.lookup x=some .local∨sc.names.lookup x=some .cell
 nofree:∀y∈sc.names,y.2≠.free
theorem zor {kindOf:Str->Option NameKind}{x:Str}:∀{binds:List (Str × Value)}{m:Str->Option Value},(∀v,(x,v) ∉ binds)->bindL kindOf binds m x=m x
 | [],_,_=>rfl
 | (n,v) :: r,m,h=>by
  unfold bindL
  rw [zor fun w hw=>h w (List.mem_cons_of_mem _ hw)]
  split
  ·have:x≠n:=by rintro rfl;exact h v List.mem_cons_self
   simp [this]
  ·rfl
theorem zos {kindOf:Str->Option NameKind}{x:Str}:∀{binds:List (Str × Value)}{m:Str->Option Value},(∀v,(x,v) ∉ binds)->bindC kindOf binds m x=m x
 | [],_,_=>rfl
 | (n,v) :: r,m,h=>by
  unfold bindC
  rw [zos fun w hw=>h w (List.mem_cons_of_mem _ hw)]
  split
  ·rfl
  ·have:x≠n:=by rintro rfl;exact h v List.mem_cons_self
   simp [this]
theorem zot {kindOf:Str->Option NameKind}{x:Str}{v:Value}:∀{P:List Str}{vs:List Value}{i:Nat}{m:Str->Option Value},P.Nodup->P[i]? = some x->vs[i]? = some v->kindOf x=some .local ->
  bindL kindOf (P.zip vs) m x=some v
 | [],_,_,_,_,h,_,_=>by simp at h
 | _ :: _,[],_,_,_,_,h,_=>by simp at h
 | p :: P,w :: vs,0,m,nd,h1,h2,hk=>by
  simp at h1 h2;subst h1;subst h2
  show bindL kindOf ((p,w) :: P.zip vs) m p=_
  unfold bindL
  rw [zor fun v hv=>(List.nodup_cons.mp nd).1 (List.of_mem_zip hv).1,if_pos hk]
  simp
 | p :: P,w :: vs,i+1,m,nd,h1,h2,hk=>by
  show bindL kindOf ((p,w) :: P.zip vs) m x=_
  unfold bindL
  exact zot (i:=i) (List.nodup_cons.mp nd).2 (by simpa using h1) (by simpa using h2) hk
theorem zou {kindOf:Str->Option NameKind}{x:Str}{v:Value}:∀{P:List Str}{vs:List Value}{i:Nat}{m:Str->Option Value},P.Nodup->P[i]? = some x->vs[i]? = some v->kindOf x≠some .local ->
  bindC kindOf (P.zip vs) m x=some v
 | [],_,_,_,_,h,_,_=>by simp at h
 | _ :: _,[],_,_,_,_,h,_=>by simp at h
 | p :: P,w :: vs,0,m,nd,h1,h2,hk=>by
  simp at h1 h2;subst h1;subst h2
  show bindC kindOf ((p,w) :: P.zip vs) m p=_
  unfold bindC
  rw [zos fun v hv=>(List.nodup_cons.mp nd).1 (List.of_mem_zip hv).1,if_neg hk]
  simp
 | p :: P,w :: vs,i+1,m,nd,h1,h2,hk=>by
  show bindC kindOf ((p,w) :: P.zip vs) m x=_
  unfold bindC
  exact zou (i:=i) (List.nodup_cons.mp nd).2 (by simpa using h1) (by simpa using h2) hk
noncomputable def start (N:List Str) (vs:List V):St:=vs.map some++List.replicate (N.length-vs.length) none
noncomputable def zgi (CX:CXT) (P:Program) (w:World) (K:QFg) (mg:Str->Option Value) (base:Heap) (N:List Str) (qual:Str) (scope:Scope) (f:Addr) (cd:Value) (A:Around) (outer:List Env) (s:Shared) (H:Hp) (E:XK):Cx where
 prog:=P
 w:=w
 K:=K
 mg:=mg
 base:=base
 A:=A.deeper (envOfC qual scope s.heap.objs.size f cd)
 N:=N
 s₀:=s
 H₀:=H
 env:=envOfC qual scope s.heap.objs.size f cd
 outer:=outer
 stack:=envOfC qual scope s.heap.objs.size f cd :: outer
 ex:=[]
 calm:=true
 fn:=fun _=>true
 pn:=[]
 xe:=fun e s'=>wpAny (model P w) (A.deeper (envOfC qual scope s.heap.objs.size f cd)) (leaving (envOfC qual scope s.heap.objs.size f cd) e) (fun _ s''=>CX outer H s E e s'') (fun e' s''=>CX outer H s E e' s'') s'
theorem zov {sc:Scope}{n:Nat}{x:Str}(h:sc.names.lookup x=some .cell):∃c,(cellsFrom n sc.names []).lookup x=some c:=by
 have q:=PySem.W.cellsFrom_some sc.names n [] (.inl h)
 exact Option.isSome_iff_exists.mp q
theorem zxb {CX:CXT}{P:Program}{w:World}{K:QFg}{mg:Str->Option Value}{base:Heap}{N ps:List Str}{qual:Str}{scope:Scope}{f:Addr}{cd:Value}{A:Around}{outer:List Env}{s s1:Shared}{H:Hp}{E:XK}{us:List Value}{vs:List V}
  (S:FnScope N ps scope) (hd:A.handled=none) (e0:Env0 P w K mg base A outer s H) (hl:vs.length=ps.length) (r:Vals vs us)
  (x:InCallC s s.heap.objs.size (bindL (envOfC qual scope s.heap.objs.size f cd).kindOf (ps.zip us) fun _=>none) (cellsFrom (s.heap.objs.size+1) scope.names []) (bindC (envOfC qual scope s.heap.objs.size f cd).kindOf (ps.zip us) fun _=>none) s1) :
  Inv (zgi CX P w K mg base N qual scope f cd A outer s H E) [] (start N vs) H s1:=by
 have hpl:ps.length<=N.length:=by have:=congrArg List.length S.pre;rw [List.length_take] at this;omega
 obtain ⟨h1,tk,rfl,hk⟩:=x.done
 have noA:∀b:Addr,b ∉ (zgi CX P w K mg base N qual scope f cd A outer s H E).ex:=fun b z=>absurd (show b∈([]:List Addr) from z) (by simp)
 refine ⟨⟨e0.mod,S.kind,rfl,rfl,qlr _,fun y z c h1 h2=>?_,fun y hy=>?_,fun y c _ h=>?_,fun _=>hd,Around.frames_deeper e0.frames,.inr ⟨rfl,rfl⟩,fun b z=>absurd z (noA b),e0.bs,e0.bsz,fun b _ _=>noA b,fun b z=>absurd z (noA b),e0.funs,e0.frf⟩,
  rfl,e0.bare,Un.kept hk,⟨_,x.toInCall.ns,fun i y v h1 h2 h3=>?_⟩,fun y c h=>⟨_,x.cell y c h⟩,e0.hok.fresh (qlr _),fun y c h=>?_,fun p hp=>absurd (show p∈([]:List (Addr × Obj)) from hp) (by simp),e0.hok.kept hk,?_⟩
 ·exact name_of_addr x.apart (PySem.mem_of_lookup h1) (PySem.mem_of_lookup h2)
 ·have hy:scope.names.lookup y=some .cell∨scope.names.lookup y=some .free:=hy
  rcases hy with hy|hy
  ·exact zov hy
  ·exact absurd rfl (S.nofree _ (PySem.mem_of_lookup hy))
 ·exact Nat.le_of_lt (x.above y c (PySem.mem_of_lookup h))
 ·have hi:i<vs.length:=by
   unfold start at h2
   by_cases hi:i<vs.length
   ·exact hi
   ·rw [List.getElem?_append_right (by simpa using hi)] at h2
    rw [List.getElem?_replicate] at h2
    split at h2 <;> cases h2
  have ha:vs[i]? = some v:=by
   unfold start at h2
   rw [List.getElem?_append_left (by simpa using hi),qgm] at h2
   cases e:vs[i]? with
   | none=>rw [e] at h2;cases h2
   | some a=>rw [e] at h2;cases h2;rfl
  obtain ⟨u,hu,rv⟩:=r.get ha
  have hp:ps[i]? = some y:=by
   rw [←S.pre,List.getElem?_take_of_lt (by omega)];exact h1
  have ndP:ps.Nodup:=by rw [←S.pre];exact S.nd.sublist (List.take_sublist _ _)
  refine ⟨u,rv,?_⟩
  rcases S.par y (qmg hp) with k|k
  ·exact .inl ⟨k,zot ndP hp hu k⟩
  ·obtain ⟨c,e⟩:=zov (n:=s.heap.objs.size+1) k
   refine .inr ⟨.inl k,c,e,?_⟩
   have q:=x.cell y c e
   rw [zou ndP hp hu (by show scope.names.lookup y≠_;rw [k];decide)] at q
   exact q
 ·exact e0.hok.fresh (Nat.le_of_lt (x.above y c (PySem.mem_of_lookup h)))
 ·unfold start
  show _=N.length
  rw [qla,qlm,List.length_replicate]
  omega
theorem zxc {CX:CXT}{P:Program}{w:World}{K:QFg}{mg:Str->Option Value}{base:Heap}{k:Nat}{f:Addr}{name qual:Str}{params:Arguments}{body:List Stmt}{scope:Scope}{dV kV doc pm cdv ct oc:Value}{an od:Option Addr}
  {osl:Array (Option Value)} {N ps:List Str} {sp:Sp} (lk:K.lookup f=some ⟨oc,od,.func (PySem.W.fnOf name qual params body scope dV kV doc pm an cdv ct),osl⟩) (hcd:PySem.W.codeIn K cdv qual=true) (S:FnScope N ps scope)
  (len:∀vs H Q E,sp vs H Q E->vs.length=ps.length)
  (hbody:∀(A:Around) (outer:List Env) (s:Shared) (H:Hp) (vs:List V) (Q:VK) (E:XK),Room k (A.deeper (envOfC qual scope s.heap.objs.size f cdv))->sp vs H Q E ->
   ∃t,PSs (zgi CX P w K mg base N qual scope f cdv A outer s H E) body t/\t { nx:=fun _ H'=>Q .non H',rt:=Q } (start N vs) H) :
  FnOk P w K mg base CX (k+1) f (PySem.W.fnOf name qual params body scope dV kV doc pm an cdv ct) ps sp:=by
 refine ⟨len,fun A outer s H args us vs Q E hr e0 hb r hsp=>?_⟩
 have hl:=len _ _ _ _ hsp
 have KX:K.In s.heap:=e0.mod.kin.keeps fun b o e=>(e0.bs b o e).1
 have lim:s.heap.NoLimit:=e0.mod.nolimit.keeps fun b o e=>(e0.bs b o e).1
 have hkind:∀y∈ps.zip us,scope.names.lookup y.1=some .local∨(scope.names.lookup y.1=some .cell/\((cellsFrom (s.heap.objs.size+1) scope.names []).lookup y.1).isSome=true):=fun hx2_ hy=>by
  obtain ⟨n,v⟩:=hx2_
  rcases S.par n (List.of_mem_zip hy).1 with q|q
  ·exact .inl q
  ·exact .inr ⟨q,PySem.W.cellsFrom_some _ _ _ (.inl q)⟩
 refine codeAny_call_function hr.depth (KX _ _ lk) rfl S.co S.gen rfl (PySem.W.codeRec_of KX hcd) (hb _ _ _ _ ?_)
 refine wpAny_newFunctionEnv_cells S.kind hkind fun env he s1 x=>?_
 subst he
 refine ⟨lim.keeps x.toInCall.keep,codeAny_func ?_⟩
 obtain ⟨t,ht,hq⟩:=hbody A outer s H vs Q E (hr.deeper _) hsp
 have I:Inv (zgi CX P w K mg base N qual scope f cdv A outer s H E) [] (start N vs) H s1:=zxb S hr.hd e0 hl r x
 refine wpAny_mono (ht [] s1 (start N vs) H _ I hq) (fun fl s' hs=>?_) fun e s' hs=>hs
 have fin:∀{σ':St} {H':Hp} {v:V} {u:Value},Inv (zgi CX P w K mg base N qual scope f cdv A outer s H E) [] σ' H' s'->RelV v u->Q v H'->CE outer P w H s Q u s' :=
  fun {σ' H' v u} J rv q=>⟨v,H',J.os,J.bare,J.base,J.hok,rv,q⟩
 cases fl with
 | ret u =>
  obtain ⟨v,σ',H',J,rv,q⟩:=hs
  exact fin J rv q
 | next =>
  obtain ⟨σ',H',J,q⟩:=hs
  exact fin (v:=V.non) (u:=Value.none) J rfl q
 | brk =>
  obtain ⟨_,_,_,q⟩:=hs
  exact False.elim q
 | cont =>
  obtain ⟨_,_,_,q⟩:=hs
  exact False.elim q
section
variable {X:Cx}{x:Str}{p pos:Pos}{e:Expr}{es:List Expr}{t:TA}{id T:String}{r:List V->Hp->VK->Prop}
noncomputable def tCB (r:List V->Hp->VK->Prop) (t:TA):TE:=fun σ H Q=>t σ H fun vs H1=>r vs H1 Q
theorem zxd (hc:CallR X (.builtin id) r) (hg:Gl X x) (hm:X.mg x=none) (hv:bootBuiltins x=some (.builtin id)) (ha:PA X (e :: es) t) (hn:x≠"__name__":=by decide) (hdb:(x == ("__debug__":Str))=false:=by decide)
  (he:starEach (e :: es) X.env=(false,eval e X.env) :: starEach es X.env:=by rfl) (hpl:(backTo pos (starEach es X.env)).any (·.1)=false:=by rfl):PE X (.Call (.Name x p) (e :: es) [] pos) (tCB r t):=by
 intro pins s σ H Q I h
 refine wpAny_Call_Name_kw (zfv I hg hm hv ?_ hn hdb)
 exact PyProof.Rows.callWith_builtin1 (thn (ha pos pins s σ H _ I h) fun us s1 ⟨vs,H1,I1,r1,q1⟩=>hc pins s1 σ H1 vs us Q I1 r1 q1) he hpl
theorem zlb (hc:CallR X (.type T) r) (hg:Gl X x) (hm:X.mg x=none) (hv:bootBuiltins x=some (.type T)) (ha:PA X (e :: es) t) (hn:x≠"__name__":=by decide) (hdb:(x == ("__debug__":Str))=false:=by decide)
  (he:starEach (e :: es) X.env=(false,eval e X.env) :: starEach es X.env:=by rfl) (hpl:(backTo pos (starEach es X.env)).any (·.1)=false:=by rfl):PE X (.Call (.Name x p) (e :: es) [] pos) (tCB r t):=by
 intro pins s σ H Q I h
 refine wpAny_Call_Name_kw (zfv I hg hm hv ?_ hn hdb)
 exact PyProof.Rows.callWith_type1 (thn (ha pos pins s σ H _ I h) fun us s1 ⟨vs,H1,I1,r1,q1⟩=>hc pins s1 σ H1 vs us Q I1 r1 q1) he hpl
end
end L2
namespace HT
open PySem PyProof.Rows
noncomputable def lexLt:List Int->List Int->Bool
 | [],[]=>false
 | [],_ :: _=>true
 | _ :: _,[]=>false
 | x :: xs,y :: ys=>if x=y then lexLt xs ys else decide (x<y)
theorem lexLt_cons (x y:Int) (xs ys:List Int):lexLt (x :: xs) (y :: ys)=if x=y then lexLt xs ys else decide (x<y):=rfl
theorem zxe:lexLt [] []=false:=rfl
theorem zxf (y:Int) (ys:List Int):lexLt [] (y :: ys)=true:=rfl
theorem zxg (x:Int) (xs:List Int):lexLt (x :: xs) []=false:=rfl
theorem zow (A:Around) (s:Shared) (a:Int) (t:Tok) (c:Int) (u:Tok):∃e,SeqAt.EqAt A s (.int a t) (.int c u) e/\(e=true↔a=c) :=
 ⟨(a == c),SeqAt.EqAt.int_int a t c u,by simp⟩
section
open PySem.SeqAt
open PySem.AutoSeq1 (wpAny_loadPart')
open PySem.MeetsSeq PySem.MeetsSeq2 PySem.MeetsSeq3
end
section
variable {prog:Program}{w:World}{A:Around}{E:Value->Shared->Prop}{s:Shared}
theorem cat_tup {t b:Addr}{vs ws:List Value}{Q:Value->Shared->Prop}(ht:IsTup s.heap t vs.toArray) (hb:IsTup s.heap b ws.toArray) (hv:vs≠[])
  (h1:ws=[]->Q (.ref t) s) (h2:ws≠[]->Q (.ref s.heap.objs.size) { s with heap:=s.heap.push { cls:=.type "tuple",data:=.seq (vs++ws).toArray } })
  (hsz:vs.length+ws.length<=sizeLine):wpAny (model prog w) A (binaryOp .Add (.ref t) (.ref b)) Q E s:=by
 obtain ⟨⟨cls,dd,data,sl⟩,ho,hc,n,hd⟩:=id ht
 obtain ⟨⟨cls2,dd2,data2,sl2⟩,ho2,hc2,n2,hd2⟩:=id hb
 simp only at hc hd hc2 hd2
 subst hc hd hc2 hd2
 have e:vs.toArray++ws.toArray=(vs++ws).toArray:=by simp
 by_cases hw:ws=[]
 ·exact concat_meets ⟨_,ho,rfl⟩ ⟨_,ho2,rfl⟩ noFill_tuple_add seq_tuple_add PySem.F.slot_tuple_add PySem.F.entry_tuple_add (PySem.F.args_tuple_add_2 _ _)
   (tuple_addW1 t b vs.toArray ws.toArray n n2 dd dd2 sl sl2 (by simpa using hv) (by simp [hw])) ⟨ho,ho2,h1 hw⟩
 ·refine concat_meets ⟨_,ho,rfl⟩ ⟨_,ho2,rfl⟩ noFill_tuple_add seq_tuple_add PySem.F.slot_tuple_add PySem.F.entry_tuple_add (PySem.F.args_tuple_add_2 _ _)
   (tuple_addW2 t b vs.toArray ws.toArray n n2 dd dd2 sl sl2 (by simpa using hv) (by simpa using hw) (by rw [List.size_toArray,List.size_toArray];exact hsz)) ⟨ho,ho2,?_⟩
  rw [e]
  exact h2 hw
noncomputable def sIx (n d:Nat):Option Int->Nat
 | none=>d
 | some v=>if v<0 then (v+(n:Int)).toNat else min v.toNat n
theorem sIx_none (n d:Nat):sIx n d none=d:=rfl
theorem sIx_nat (n d k:Nat):sIx n d (some (k:Int))=min k n:=by
 show (if (k:Int)<0 then ((k:Int)+(n:Int)).toNat else min (k:Int).toNat n)=min k n
 rw [if_neg (by omega),Int.toNat_natCast]
theorem zxh (n d:Nat) (hd:d<=n) (o:Option Int):sIx n d o<=n:=by
 cases o with
 | none=>exact hd
 | some v =>
  show (if v<0 then (v+(n:Int)).toNat else min v.toNat n)<=n
  by_cases hv:v<0
  ·rw [if_pos hv];omega
  ·rw [if_neg hv];exact Nat.min_le_right _ _
theorem zox (v:Int) (n d:Nat):(if v<0 then max (v+(n:Int)) 0 else min v (n:Int))=((sIx n d (some v):Nat):Int):=by
 show (if v<0 then max (v+(n:Int)) 0 else min v (n:Int))=(((if v<0 then (v+(n:Int)).toNat else min v.toNat n):Nat):Int)
 by_cases hv:v<0
 ·simp only [if_pos hv];omega
 ·simp only [if_neg hv];omega
theorem zxi (lo hi:Option Int) (n:Nat):Builtin.Slice.sliceAdjust lo hi 1 (n:Int)=(((sIx n 0 lo:Nat):Int),((sIx n n hi:Nat):Int)):=by
 have h1:¬((1:Int)<0):=by omega
 unfold Builtin.Slice.sliceAdjust
 simp only [h1,if_false]
 refine Prod.ext ?_ ?_
 ·cases lo with
  | none=>rfl
  | some v=>exact zox v n 0
 ·cases hi with
  | none=>rfl
  | some v=>exact zox v n n
theorem zxj (i j:Nat):Builtin.Slice.slicePlaces (i:Int) (j:Int) 1=j-i:=by
 unfold Builtin.Slice.slicePlaces
 have h1:(1:Int) > 0:=by omega
 simp only [h1,if_true,Int.ediv_one]
 split <;> omega
theorem zoy {v:Value}{o:Option Int}{Q:Option Int->Shared->Prop}(p:IsPart v o) (h:Q o s):wpAny (model prog w) A (Builtin.Slice.slicePartIndex v) Q E s:=by
 cases p with
 | none=>exact slicePart_none h
 | int i t=>exact slicePart_int h
theorem zoz {sl:Addr}{vl vu:Value}{lo hi:Option Int}{n:Nat}{Q:Int × Int × Nat->Shared->Prop}(hs:s.heap.IsSliceOf sl vl vu .none) (pl:IsPart vl lo) (pu:IsPart vu hi)
  (h:Q (((sIx n 0 lo:Nat):Int),1,sIx n n hi-sIx n 0 lo) s):wpAny (model prog w) A (Builtin.Slice.sliceApplied (.ref sl) (pure (n:Int))) Q E s:=by
 obtain ⟨os,hos,hcs,hds⟩:=id hs
 unfold Builtin.Slice.sliceApplied Builtin.Slice.sliceFields
 refine wpAny_bind (wpAny_bind (wpAny_field hos hds (x:=vl) rfl (wpAny_bind (wpAny_field hos hds (x:=vu) rfl (wpAny_bind (wpAny_field hos hds (x:=.none) rfl (wpAny_pure ?_)))))))
 refine wpAny_bind (slicePart_none ?_)
 show wpAny _ _ (if ((1:Int) == 0)=true then _ else _) _ _ s
 rw [if_neg (by decide)]
 refine wpAny_bind (zoy pl (wpAny_bind (zoy pu (wpAny_bind (wpAny_pure ?_)))))
 show wpAny _ _ (match Builtin.Slice.sliceAdjust lo hi 1 (n:Int) with|(lo,hi)=>pure (lo,(1:Int),Builtin.Slice.slicePlaces lo hi 1)) _ _ s
 rw [zxi lo hi n]
 show wpAny _ _ (pure (((sIx n 0 lo:Nat):Int),(1:Int),Builtin.Slice.slicePlaces ((sIx n 0 lo:Nat):Int) ((sIx n n hi:Nat):Int) 1)) _ _ s
 rw [zxj]
 exact wpAny_pure h
theorem zxk (xs:Array Value) (i k:Nat):((List.range k).filterMap fun (m:Nat)=>xs[((i:Int)+(m:Int)*1).toNat]?).toArray=((xs.toList.drop i).take k).toArray:=by
 have e:(fun (m:Nat)=>xs[((i:Int)+(m:Int)*1).toNat]?)=fun m=>xs[i+m]?:=by
  funext m
  have:((i:Int)+(m:Int)*1).toNat=i+m:=by omega
  rw [this]
 rw [e]
 have:=pick_run xs i k
 rw [List.filterMap_map] at this
 have e2:((fun x=>xs[x]?) ∘ fun x=>i+x)=fun m=>xs[i+m]?:=rfl
 rw [e2] at this
 rw [this]
theorem getItem_tuple_cut {t sl:Addr}{items:Array Value}{vl vu:Value}{lo hi:Option Int}{Q:Value->Shared->Prop}(ht:IsTup s.heap t items) (hs:s.heap.IsSliceOf sl vl vu .none) (pl:IsPart vl lo) (pu:IsPart vu hi)
  (hw:¬(sIx items.size 0 lo=0/\sIx items.size items.size hi=items.size))
  (h:Q (.ref s.heap.objs.size) { s with heap:=s.heap.push { cls:=.type "tuple",data:=.seq ((items.toList.drop (sIx items.size 0 lo)).take (sIx items.size items.size hi-sIx items.size 0 lo)).toArray } })
  (hsz:items.size<=sizeLine):wpAny (model prog w) A (getItem (.ref t) (.ref sl)) Q E s:=by
 have htake:sizeOk (.seq ((items.toList.drop (sIx items.size 0 lo)).take (sIx items.size items.size hi-sIx items.size 0 lo)).toArray):=by
  show ((items.toList.drop (sIx items.size 0 lo)).take (sIx items.size items.size hi-sIx items.size 0 lo)).toArray.size<=sizeLine
  rw [List.size_toArray,List.length_take,List.length_drop,Array.length_toList]
  omega
 have hj:sIx items.size items.size hi<=items.size:=zxh _ _ (qlr _) hi
 obtain ⟨os,hos,hcs,hds⟩:=id hs
 have hTs:s.TypeIs (.ref sl) "slice":=⟨os,hos,hcs⟩
 unfold getItem
 try with_reducible refine wpAny_holding ?_
 first|refine wpAny_bind (wpAny_pure ?_)|skip
 refine wpAny_bind (wpAny_sequenceKey ht.typeIs (by decide) ?_)
 refine wpAny_bind (wpAny_callSpecial?_slot (name:=Str.ofString "__getitem__") ht.typeIs PyProof.Rows.slot_tuple_getitem
  (wpAny_call_entry PyProof.Rows.slot_tuple_getitem ht.typeIs entry_tuple_getitem ?_ (args_tuple_getitem _ _)))
 show wpAny _ _ (Builtin.Tuple.tupleItemsOf (.ref t) >>= _) _ _ s
 refine wpAny_bind (tupleItemsOf_ ht ?_)
 refine wpAny_bind (wpAny_typeOf hTs ?_)
 rw [if_pos (by decide)]
 refine wpAny_bind (zoz hs pl pu ?_)
 have hno:¬((((sIx items.size 0 lo:Nat):Int) == 0 && (1:Int) == 1 && (sIx items.size items.size hi-sIx items.size 0 lo) == items.size)=true):=by
  intro q
  rw [Bool.and_eq_true,Bool.and_eq_true] at q
  have q1:((sIx items.size 0 lo:Nat):Int)=0:=eq_of_beq q.1.1
  have q2:sIx items.size items.size hi-sIx items.size 0 lo=items.size:=eq_of_beq q.2
  exact hw ⟨by omega,by omega⟩
 show wpAny _ _ (if (((sIx items.size 0 lo:Nat):Int) == 0 && (1:Int) == 1 && (sIx items.size items.size hi-sIx items.size 0 lo) == items.size)=true then _ else _) _ _ s
 rw [if_neg hno,zxk]
 first
  | exact wpAny_bind (m:=Builtin.Tuple.tupleExact _) (wpAny_newObj_type (wpAny_pure ⟨_,rfl,wpAny_pure h⟩) htake)
  | exact wpAny_bind (m:=Builtin.Tuple.tupleExact _) (wpAny_newObj_type (wpAny_bind (wpAny_pure (wpAny_pure ⟨_,rfl,wpAny_pure h⟩))) htake)
  | exact wpAny_bind (wpAny_bind (m:=Builtin.Tuple.tupleExact _) (wpAny_newObj_type (wpAny_pure (wpAny_pure ⟨_,rfl,wpAny_pure h⟩)) htake))
  | exact wpAny_bind (wpAny_bind (m:=Builtin.Tuple.tupleExact _) (wpAny_newObj_type (wpAny_pure ⟨_,rfl,wpAny_pure h⟩) htake))
end
end HT
namespace L2
open PySem PySem.Spec PyProof.Rows
noncomputable abbrev TO:=St->Hp->(Option Int->Hp->Prop)->Prop
noncomputable def PO (X:Cx) (e:Option Expr) (t:TO):Prop :=
 ∀(pins:List (Addr × Obj)) (s:Shared) (σ:St) (H:Hp) (Q:Option Int->Hp->Prop),Inv X pins σ H s->t σ H Q ->
  wpAny (model X.prog X.w) X.A (evalPart e X.env) (fun u s'=>∃o H',Inv X pins σ H' s'/\IsPart u o/\Q o H') X.xe s
noncomputable def zxl:TO:=fun _ H Q=>Q none H
noncomputable def zxm (t:TE):TO:=fun σ H Q=>t σ H fun x H1=>∃i,x=.int i/\Q (some i) H1
theorem zo0 {ns:List Int}:∀{us:List Value},Vals (ns.map V.int) us->IntsAre us ns:=by
 induction ns with
 | nil=>intro us r;rw [List.map_nil] at r;cases r;exact .nil
 | cons n ns ih =>
  intro us r
  rw [List.map_cons] at r
  cases r with
  | cons r1 r2 =>
   obtain ⟨t,e⟩:=r1
   subst e
   exact .cons n t (ih r2)
section
variable {X:Cx}{e:Expr}{te:TE}{lo hi:Option Expr}{tl th:TO}{pos p2:Pos}
theorem zxn:PO X none zxl:=by
 intro pins s σ H Q I h
 rw [evalPart_none]
 exact wpAny_pure ⟨none,H,I,.none,h⟩
theorem zxo (h:PE X e te):PO X (some e) (zxm te):=by
 intro pins s σ H Q I hw
 rw [evalPart_some]
 refine thn (h pins s σ H _ I hw) fun u s1 ⟨x,H1,I1,r1,q1⟩=>?_
 obtain ⟨i,rfl,q⟩:=q1
 obtain ⟨t,rfl⟩:=r1
 exact ⟨some i,H1,I1,.int i t,q⟩
noncomputable def SlR (X:Cx) (r:V->Option Int->Option Int->Hp->VK->Prop):Prop :=
 ∀(pins:List (Addr × Obj)) (s:Shared) (σ:St) (H:Hp) (x:V) (v vl vu:Value) (lo hi:Option Int) (sl:Addr) (Q:VK),Inv X pins σ H s->RelV x v->s.heap.IsSliceOf sl vl vu .none->IsPart vl lo->IsPart vu hi->r x lo hi H Q ->
  ∃T id,typeLookup (.type T) "__getitem__" = pure (some (.builtin id))/\s.TypeIs v T/\wpAny (model X.prog X.w) X.A (getItem v (.ref sl)) (EP X pins σ Q) X.xe s
theorem SlR.or {r r':V->Option Int->Option Int->Hp->VK->Prop}(h:SlR X r) (h':SlR X r'):SlR X (fun x lo hi H Q=>r x lo hi H Q∨r' x lo hi H Q):=by
 intro pins s σ H x v vl vu lo hi sl Q I rx hs pl pu q
 rcases q with q|q
 ·exact h pins s σ H x v vl vu lo hi sl Q I rx hs pl pu q
 ·exact h' pins s σ H x v vl vu lo hi sl Q I rx hs pl pu q
noncomputable def tSl (r:V->Option Int->Option Int->Hp->VK->Prop) (te:TE) (tl th:TO):TE:=fun σ H Q=>te σ H fun x H1=>tl σ H1 fun l H2=>th σ H2 fun u H3=>r x l u H3 Q
theorem zxp {r:V->Option Int->Option Int->Hp->VK->Prop}(hr:SlR X r) (he:PE X e te) (hl:PO X lo tl) (hu:PO X hi th):PE X (.Subscript e (.Slice lo hi none p2) pos) (tSl r te tl th):=by
 intro pins s σ H Q I h
 refine Subscript_ (thn (he pins s σ H _ I h) fun v s1 ⟨x,H1,I1,r1,q1⟩=>?_)
 refine wpAny_Slice (thn (hl pins s1 σ H1 _ I1 q1) fun vl s2 ⟨l,H2,I2,pl,q2⟩=>thn (hu pins s2 σ H2 _ I2 q2) fun vu s3 ⟨u,H3,I3,pu,q3⟩=>?_)
 rw [evalPart_none]
 refine wpAny_pure ?_
 have I4:Inv X pins σ H3 { s3 with heap:=s3.heap.push { cls:=.type "slice",data:=.fields #[vl,vu,.none] } }:=I3.kept (t':=s3.toks) fun b ob q=>qps _ q
 obtain ⟨T,id,hT,ht,hg⟩:=hr pins { s3 with heap:=s3.heap.push { cls:=.type "slice",data:=.fields #[vl,vu,.none] } } σ H3 x v vl vu l u s3.heap.objs.size Q I4 r1 (Heap.IsSliceOf.new ..) pl pu q3
 show wpAny (model X.prog X.w) X.A (subscriptTail e (.Slice lo hi none p2) v (.ref s3.heap.objs.size)) (EP X pins σ Q) X.xe { s3 with heap:=s3.heap.push { cls:=.type "slice",data:=.fields #[vl,vu,.none] } }
 exact tail_any (ops:=[.ref s3.heap.objs.size,v]) ht hT hg (by with_unfolding_all rfl)
noncomputable def zd9 (xs:List V) (lo hi:Option Int):List V:=(xs.drop (HT.sIx xs.length 0 lo)).take (HT.sIx xs.length xs.length hi-HT.sIx xs.length 0 lo)
theorem zo1 (xs:List V) (lo hi:Option Int):(zd9 xs lo hi).length<=xs.length:=by
 unfold zd9
 rw [List.length_take,List.length_drop]
 omega
noncomputable def zxq (K:QFg):V->Option Int->Option Int->Hp->VK->Prop:=fun x lo hi H Q=>∃a xs,x=.ref a/\SqT K H a xs /\
 ¬(HT.sIx xs.length 0 lo=0/\HT.sIx xs.length xs.length hi=xs.length)/\∀p,H p=none->Q (.ref p) (upd H p (.tup (zd9 xs lo hi)))
theorem sl_tup:SlR X (zxq X.K):=by
 intro pins s σ H x v vl vu lo hi sl Q I rx hs pl pu h
 obtain ⟨a,xs,rfl,hx,hw,q⟩:=h
 cases rx
 obtain ⟨its,r,ht,hz⟩:=I.tuple hx
 have hlen:its.toArray.size=xs.length:=by rw [List.size_toArray];exact r.length.symm
 refine ⟨"tuple",_,PyProof.Rows.slot_tuple_getitem.lookup,ht.typeIs,?_⟩
 refine HT.getItem_tuple_cut ht hs pl pu (by rw [hlen];exact hw) ?_ (by rw [hlen];exact hz)
 rw [hlen]
 refine ⟨.ref s.heap.objs.size,_,I.laid (t':=s.toks) (o:=.tup (zd9 xs lo hi)) (fun b ob q=>qps _ q) (qlr _) ?_,rfl,q _ (I.hok.fresh (qlr _))⟩
 exact ⟨Nat.le_trans (zo1 xs lo hi) hz,_,(r.drop (HT.sIx xs.length 0 lo)).take (HT.sIx xs.length xs.length hi-HT.sIx xs.length 0 lo),IsTup.new _ _⟩
noncomputable def zlc (K:QFg):R2:=fun x y H Q=>∃a b xs ys,x=.ref a/\y=.ref b/\SqT K H a xs/\SqT K H b ys/\xs≠[]/\xs.length+ys.length<=sizeLine /\
 (ys=[]->Q (.ref a) H)/\(ys≠[]->∀p,H p=none->Q (.ref p) (upd H p (.tup (xs++ys))))
theorem Vals.nil_iff {xs:List V}{us:List Value}(r:Vals xs us):us=[]↔xs=[]:=by
 cases r with
 | nil=>simp
 | cons _ _=>simp
theorem op_catT:OpR X (binaryOp .Add) (zlc X.K):=by
 intro pins s σ H x y v u Q I rx ry h
 obtain ⟨a,b,xs,ys,rfl,rfl,ha,hb,hx,hz,q1,q2⟩:=h
 cases rx
 cases ry
 obtain ⟨its,r1,p1,_⟩:=I.tuple ha
 obtain ⟨its2,r2,p2,_⟩:=I.tuple hb
 refine HT.cat_tup p1 p2 (fun z=>hx (r1.nil_iff.mp z)) (fun z=>⟨.ref a,H,I,rfl,q1 (r2.nil_iff.mp z)⟩) (fun z=>?_) (by rw [←r1.length,←r2.length];exact hz)
 refine ⟨.ref s.heap.objs.size,_,I.laid (t':=s.toks) (o:=.tup (xs++ys)) (fun b ob q=>qps _ q) (qlr _) ?_,rfl,q2 (fun w=>z (r2.nil_iff.mpr w)) _ (I.hok.fresh (qlr _))⟩
 exact ⟨by rw [qla];exact hz,_,r1.append r2,IsTup.new _ _⟩
end
noncomputable def ixN (n:Nat) (i:Int):Option Nat:=if 0<=i then (if i<n then some i.toNat else none) else if -(n:Int)<=i then some (i+n).toNat else none
noncomputable def atI {α:Type}(xs:List α) (i:Int):Option α:=(ixN xs.length i).bind fun j=>xs[j]?
theorem zo2 {n:Nat}{i:Int}{j:Nat}(h:ixN n i=some j):seqIndex? i n=some j/\j<n/\-(n:Int)<=i/\i<n:=by
 unfold ixN at h
 by_cases h0:0<=i
 ·rw [if_pos h0] at h
  by_cases h1:i<n
  ·rw [if_pos h1] at h
   have e:i.toNat=j:=qoi h
   exact ⟨by rw [seqIndex_of h0 h1,e],by omega,by omega,h1⟩
  ·rw [if_neg h1] at h;cases h
 ·rw [if_neg h0] at h
  by_cases h1:-(n:Int)<=i
  ·rw [if_pos h1] at h
   have e:(i+n).toNat=j:=qoi h
   exact ⟨by rw [seqIndex_neg (by omega) h1,e],by omega,h1,by omega⟩
  ·rw [if_neg h1] at h;cases h
theorem atI_get {α:Type}{xs:List α}{i:Int}{v:α}(h:atI xs i=some v):∃j,seqIndex? i xs.length=some j/\xs[j]? = some v/\j<xs.length/\-(xs.length:Int)<=i/\i<xs.length:=by
 unfold atI at h
 cases e:ixN xs.length i with
 | none=>rw [e] at h;cases h
 | some j =>
  rw [e] at h
  obtain ⟨h1,h2,h3,h4⟩:=zo2 e
  exact ⟨j,h1,h,h2,h3,h4⟩
noncomputable def zo3 (b:Expr):Prop:=∀o i,subscripted b false o i=operate [o,i] (getItem o i)
noncomputable def IxR (X:Cx) (r:R2):Prop :=
 ∀(value slice:Expr) (pins:List (Addr × Obj)) (s:Shared) (σ:St) (H:Hp) (x y:V) (v u:Value) (Q:VK),Inv X pins σ H s->RelV x v->RelV y u->r x y H Q ->
  subscripted slice false v u=operate [v,u] (getItem v u)->wpAny (model X.prog X.w) X.A (subscriptTail value slice v u) (EP X pins σ Q) X.xe s
noncomputable def MtR (X:Cx) (id:String) (r:V->List V->Hp->VK->Prop):Prop :=
 ∀(pins:List (Addr × Obj)) (s:Shared) (σ:St) (H:Hp) (x:V) (xs:List V) (v:Value) (us:List Value) (Q:VK),Inv X pins σ H s->RelV x v->Vals xs us->r x xs H Q ->
  wpAny (model X.prog X.w) X.A (call (.builtin id) (v :: us)) (EP X pins σ Q) X.xe s
section
variable {X:Cx}{a b:Expr}{ta tb:TE}{pos:Pos}
theorem IxR.or {r r':R2}(h:IxR X r) (h':IxR X r'):IxR X (fun x y H Q=>r x y H Q∨r' x y H Q):=by
 intro value slice pins s σ H x y v u Q I rx ry q hs
 rcases q with q|q
 ·exact h value slice pins s σ H x y v u Q I rx ry q hs
 ·exact h' value slice pins s σ H x y v u Q I rx ry q hs
theorem zxr {r:R2}(hr:IxR X r) (ha:PE X a ta) (hb:PE X b tb) (hs:zo3 b):PE X (.Subscript a b pos) (tOp r ta tb):=by
 intro pins s σ H Q I h
 exact Subscript_ (zk7 ha hb I h fun v u s2 x y H2 I2 rx ry q=>hr a b pins s2 σ H2 x y v u Q I2 rx ry q (hs _ _))
noncomputable def zo4 (K:QFg):R2:=fun x y H Q=>∃p xs i v,x=.ref p/\y=.int i/\SqL K H p xs/\atI xs i=some v/\Q v H
noncomputable def zo5 (K:QFg):R2:=fun x y H Q=>∃p xs i v,x=.ref p/\y=.int i/\SqT K H p xs/\atI xs i=some v/\Q v H
noncomputable def zld:R2:=fun x y H Q=>∃z i c,x=.str z/\y=.int i/\z.length<=sizeLine/\atI z.cps.toList i=some c/\Q (.str ⟨#[c]⟩) H
theorem ix_list:IxR X (zo4 X.K):=by
 intro value slice pins s σ H x y v u Q I rx ry h hs
 obtain ⟨p,xs,i,z,rfl,rfl,hq,he,q⟩:=h
 cases rx
 obtain ⟨t,rfl⟩:=ry
 obtain ⟨its,r,pl,hz⟩:=I.list hq
 obtain ⟨j,h1,h2,h3,h4,h5⟩:=atI_get he
 obtain ⟨w,ew,rw'⟩:=r.get h2
 have hl:=r.length
 have hn:=zg4
 have fin:EP X pins σ Q w s:=⟨z,H,I,rw',q⟩
 by_cases h0:0<=i
 ·have hj:i.toNat=j:=by
   rw [seqIndex_of h0 h5] at h1
   exact qoi h1
  exact item_listR pl.isList h0 (by omega) (by rw [hj];simpa using ew) fin hs
 ·have hj:(i+(its.toArray.size:Int)).toNat=j:=by
   rw [seqIndex_neg (by omega) h4] at h1
   rw [List.size_toArray,←hl]
   exact qoi h1
  exact subscriptTail_builtinR (x:=w) pl.isList.typeIs slot_list_getitem.lookup
   (wpAny_getItem_list_neg (Q:=fun r s'=>r=w/\EP X pins σ Q r s') pl.isList (by omega) (by rw [List.size_toArray] <;> omega) (by omega) (by rw [hj];simpa using ew) ⟨rfl,fin⟩) hs
theorem ix_tup:IxR X (zo5 X.K):=by
 intro value slice pins s σ H x y v u Q I rx ry h hs
 obtain ⟨p,xs,i,z,rfl,rfl,hq,he,q⟩:=h
 cases rx
 obtain ⟨t,rfl⟩:=ry
 obtain ⟨its,r,pl,hz⟩:=I.tuple hq
 obtain ⟨j,h1,h2,h3,h4,h5⟩:=atI_get he
 obtain ⟨w,ew,rw'⟩:=r.get h2
 have hl:=r.length
 have hn:=zg4
 have fin:EP X pins σ Q w s:=⟨z,H,I,rw',q⟩
 exact subscriptTail_builtinR (x:=w) pl.typeIs slot_tuple_getitem.lookup
  (getItem_tuple (j:=j) (Q:=fun r s'=>r=w/\EP X pins σ Q r s') pl (by omega) (by omega) (by rw [List.size_toArray,←hl];exact h1) (by simpa using ew) ⟨rfl,fin⟩) hs
theorem zxs:IxR X zld:=by
 intro value slice pins s σ H x y v u Q I rx ry h hs
 obtain ⟨z,i,c,rfl,rfl,hz,he,q⟩:=h
 obtain ⟨t,rfl⟩:=rx
 obtain ⟨t',rfl⟩:=ry
 obtain ⟨j,h1,h2,h3,h4,h5⟩:=atI_get he
 have hl:z.cps.toList.length=z.length:=by simp [Str.length]
 rw [hl] at h1 h4 h5
 have hn:=zg4
 exact tail_any (typeIs_str s z t) slot_str_getitem.lookup (getItem_str (c:=c) (by
  have e1:decide (i < -(2 ^ 63:Int))=false:=decide_eq_false (by omega)
  have e2:decide (i ≥ 2 ^ 63)=false:=decide_eq_false (by omega)
  rw [e1,e2,Bool.or_false]) (by rw [h1];simpa using h2) ⟨.str ⟨#[c]⟩,H,I.tok _,⟨_,rfl⟩,q⟩) hs
noncomputable def rIx (K:QFg):R2:=fun x y H Q=>zo4 K x y H Q∨zo5 K x y H Q∨zld x y H Q
theorem zxt:IxR X (rIx X.K):=ix_list.or (ix_tup.or zxs)
theorem zxu (its:List Value) (n j:Nat) (u:Value):Obj.mapSeq (·.setIfInBounds j u) { cls:=.type "list",data:=.seq its.toArray n }={ cls:=.type "list",data:=.seq (its.set j u).toArray n }:=by
 simp [Obj.mapSeq]
theorem Inv.lst {pins:List (Addr × Obj)}{σ:St}{H:Hp}{s:Shared}{p:Addr}{xs:List V}(I:Inv X pins σ H s) (h:H p=some (.lst xs)) :
  ∃(its:List Value) (n:Nat),Vals xs its/\s.heap.get? p=some { cls:=.type "list",data:=.seq its.toArray n }/\xs.length<=sizeLine:=by
 obtain ⟨z,its,n,r,e⟩:=I.hok p _ h
 exact ⟨its,n,r,e,z⟩
theorem Inv.lstUpd {pins:List (Addr × Obj)}{σ:St}{H:Hp}{s:Shared}{p:Addr}{xs ys:List V}{its its':List Value}{n n':Nat}{f:Obj->Obj}(I:Inv X pins σ H s) (h:H p=some (.lst xs))
  (ho:s.heap.get? p=some { cls:=.type "list",data:=.seq its.toArray n }) (hf:f { cls:=.type "list",data:=.seq its.toArray n }={ cls:=.type "list",data:=.seq its'.toArray n' }) (r:Vals ys its') (hz:ys.length<=sizeLine) (t:Nat) :
  Inv X pins σ (upd H p (.lst ys)) { s with heap:=s.heap.update p f,toks:=t }:=by
 have e:(s.heap.update p f).get? p=some { cls:=.type "list",data:=.seq its'.toArray n' }:=by
  rw [Heap.get?_update_self f ho (by rw [hf] <;> rfl),hf]
 refine I.write (x:=p) (e:=p) (by rw [h];trivial) (.inl rfl) (fun b u hb q=>(Heap.get?_update_other _ _ (Ne.symm hb)).trans q) ⟨_,e⟩ ?_
 exact ⟨hz,its',n',r,e⟩
noncomputable def zo6:V->V->V->Hp->(Hp->Prop)->Prop:=fun o i v H Q=>∃p xs k j,o=.ref p/\i=.int k/\H p=some (.lst xs)/\ixN xs.length k=some j/\Q (upd H p (.lst (xs.set j v)))
theorem zxv:zn8 X zo6:=by
 intro pins s σ H o i v ov iv u Q I ro ri rv h
 obtain ⟨p,xs,k,j,rfl,rfl,hp,hj,q⟩:=h
 cases ro
 obtain ⟨t,rfl⟩:=ri
 obtain ⟨its,n,r,ho,hz⟩:=I.lst hp
 obtain ⟨h1,h2,h3,h4⟩:=zo2 hj
 have hl:=r.length
 have hn:=zg4
 have I':Inv X pins σ (upd H p (.lst (xs.set j v))) { s with heap:=s.heap.update p (Obj.mapSeq (·.setIfInBounds j u)) } :=
  I.lstUpd hp ho (zxu its n j u) (r.set rv j) (by rw [List.length_set];exact hz) s.toks
 by_cases h0:0<=k
 ·have hk:k.toNat=j:=by
   rw [seqIndex_of h0 h4] at h1
   exact qoi h1
  exact PySem.W.ki_setAt ho h0 (by omega) (by rw [List.size_toArray,←hl];exact h4) (by rw [hk];exact ⟨_,I',q⟩)
 ·have hk:(k+(its.toArray.size:Int)).toNat=j:=by
   rw [seqIndex_neg (by omega) h3] at h1
   rw [List.size_toArray,←hl]
   exact qoi h1
  exact PySem.W.ki_setBack ho (by omega) (by rw [List.size_toArray,←hl];exact h3) (by omega) (by rw [hk];exact ⟨_,I',q⟩)
theorem zxw (lo hi:Option Int) (n:Nat):(sliceBounds lo hi none n).1=((HT.sIx n 0 lo:Nat):Int)/\(sliceBounds lo hi none n).2.1=((HT.sIx n n hi:Nat):Int)/\(sliceBounds lo hi none n).2.2=1:=by
 refine ⟨?_,?_,rfl⟩
 ·cases lo with
  | none=>simp [sliceBounds,HT.sIx]
  | some i =>
   simp only [sliceBounds,HT.sIx,Option.getD_none,show (1:Int) > 0 by decide,if_true]
   by_cases h:i<0
   ·simp only [h,if_true] <;> omega
   ·simp only [h,if_false] <;> omega
 ·cases hi with
  | none=>simp [sliceBounds,HT.sIx]
  | some i =>
   simp only [sliceBounds,HT.sIx,Option.getD_none,show (1:Int) > 0 by decide,if_true]
   by_cases h:i<0
   ·simp only [h,if_true] <;> omega
   ·simp only [h,if_false] <;> omega
theorem zxx (its:List Value) (lo hi:Option Int):slicePick its.toArray lo hi none=((its.drop (HT.sIx its.length 0 lo)).take (HT.sIx its.length its.length hi-HT.sIx its.length 0 lo)).toArray:=by
 obtain ⟨h1,h2,h3⟩:=zxw lo hi its.toArray.size
 unfold slicePick
 rw [h1,h2,h3]
 simp only [sliceRange_one,pick_run,List.size_toArray] <;> rfl
noncomputable def zxy (K:QFg):V->Option Int->Option Int->Hp->VK->Prop:=fun x lo hi H Q=>∃a xs,x=.ref a/\SqL K H a xs/\∀p,H p=none->Q (.ref p) (upd H p (.lst (zd9 xs lo hi)))
theorem zxz:SlR X (zxy X.K):=by
 intro pins s σ H x v vl vu lo hi sl Q I rx hs pl pu h
 obtain ⟨a,xs,rfl,hx,q⟩:=h
 cases rx
 obtain ⟨its,r,ht,hz⟩:=I.list hx
 have hlen:=r.length
 refine ⟨"list",_,slot_list_getitem.lookup,ht.isList.typeIs,?_⟩
 refine wpAny_getItem_list_slice ht.isList hs pl pu .none (by simp) ?_ (by rw [List.size_toArray] <;> omega)
 rw [zxx,←hlen]
 refine ⟨.ref s.heap.objs.size,_,I.laid (t':=s.toks) (o:=.lst (zd9 xs lo hi)) (fun b ob q=>qps _ q) (qlr _) ?_,rfl,q _ (I.hok.fresh (qlr _))⟩
 exact ⟨Nat.le_trans (zo1 xs lo hi) hz,_,0,(r.drop (HT.sIx xs.length 0 lo)).take (HT.sIx xs.length xs.length hi-HT.sIx xs.length 0 lo),Heap.get?_push_size _ rfl⟩
noncomputable def zea:V->Bool
 | .non=>true
 | .bl _=>true
 | .int _=>true
 | .str _=>true
 | _=>false
noncomputable def eqV:V->V->Bool
 | .non,.non=>true
 | .bl a,.bl b=>a == b
 | .bl a,.int b=>(if a then 1 else 0) == b
 | .int a,.bl b=>a == (if b then 1 else 0)
 | .int a,.int b=>a == b
 | .str a,.str b=>a == b
 | _,_=>false
theorem zx0 {A:Around}{s:Shared}{y x:V}{u v:Value}(ry:RelV y u) (rx:RelV x v) (fy:zea y=true) (fx:zea x=true):SeqAt.EqAt A s u v (eqV y x):=by
 cases y with
 | non =>
  cases ry
  cases x with
  | non=>cases rx;exact SeqAt.EqAt.same _
  | bl b=>cases rx;exact SeqAt.EqAt.none_bool b
  | int b=>obtain ⟨t,rfl⟩:=rx;exact SeqAt.EqAt.none_int b t
  | str b=>obtain ⟨t,rfl⟩:=rx;exact SeqAt.EqAt.none_str b t
  | _=>exact absurd (show false=true from fx) Bool.false_ne_true
 | bl a =>
  cases ry
  cases x with
  | non=>cases rx;exact SeqAt.EqAt.bool_none a
  | bl b=>cases rx;exact SeqAt.EqAt.bool_bool a b
  | int b=>obtain ⟨t,rfl⟩:=rx;exact SeqAt.EqAt.bool_int a b t
  | str b=>obtain ⟨t,rfl⟩:=rx;exact SeqAt.EqAt.bool_str a b t
  | _=>exact absurd (show false=true from fx) Bool.false_ne_true
 | int a =>
  obtain ⟨t',rfl⟩:=ry
  cases x with
  | non=>cases rx;exact SeqAt.EqAt.int_none a t'
  | bl b=>cases rx;exact SeqAt.EqAt.int_bool a t' b
  | int b=>obtain ⟨t,rfl⟩:=rx;exact SeqAt.EqAt.int_int a t' b t
  | str b=>obtain ⟨t,rfl⟩:=rx;exact SeqAt.EqAt.int_str a t' b t
  | _=>exact absurd (show false=true from fx) Bool.false_ne_true
 | str a =>
  obtain ⟨t',rfl⟩:=ry
  cases x with
  | non=>cases rx;exact SeqAt.EqAt.str_none a t'
  | bl b=>cases rx;exact SeqAt.EqAt.str_bool a t' b
  | int b=>obtain ⟨t,rfl⟩:=rx;exact SeqAt.EqAt.str_int a t' b t
  | str b=>obtain ⟨t,rfl⟩:=rx;exact SeqAt.EqAt.str_str a t' b t
  | _=>exact absurd (show false=true from fx) Bool.false_ne_true
 | _=>exact absurd (show false=true from fy) Bool.false_ne_true
noncomputable def eqU (x:V) (u:Value):Bool:=match u with
 | .none=>eqV .non x
 | .bool b=>eqV (.bl b) x
 | .int i _=>eqV (.int i) x
 | .str z _=>eqV (.str z) x
 | _=>false
theorem zo7 {x y:V}{u:Value}(r:RelV y u) (f:zea y=true):eqU x u=eqV y x:=by
 cases y with
 | non=>cases r;rfl
 | bl b=>cases r;rfl
 | int i=>obtain ⟨t,rfl⟩:=r;rfl
 | str z=>obtain ⟨t,rfl⟩:=r;rfl
 | _=>exact absurd (show false=true from f) Bool.false_ne_true
theorem zic {x:V}:∀{xs:List V}{us:List Value},Vals xs us->xs.all zea=true->us.any (eqU x)=xs.any fun y=>eqV y x
 | _,_,.nil,_=>rfl
 | y :: xs,u :: us,.cons r t,f=>by
  rw [List.all_cons,Bool.and_eq_true] at f
  rw [List.any_cons,List.any_cons,zo7 r f.1,zic t f.2]
theorem zid {A:Around}{s:Shared}{x:V}{v:Value}(rx:RelV x v) (fx:zea x=true):∀{xs:List V}{us:List Value},Vals xs us->xs.all zea=true->∀u∈us,SeqAt.EqAt A s u v (eqU x u)
 | _,_,.nil,_=>fun u hu=>by cases hu
 | y :: xs,u :: us,.cons r t,f=>fun u' hu=>by
  rw [List.all_cons,Bool.and_eq_true] at f
  rcases List.mem_cons.mp hu with rfl|hu
  ·rw [zo7 r f.1];exact zx0 r rx f.1 fx
  ·exact zid rx fx t f.2 u' hu
noncomputable def inV (x:V) (xs:List V):Bool:=xs.any fun y=>eqV y x
noncomputable def rIn (K:QFg) (neg:Bool):R2:=fun x y H Q=>∃p xs,y=.ref p/\(SqL K H p xs∨SqT K H p xs)/\zea x=true/\xs.all zea=true/\Q (.bl (if neg then !inV x xs else inV x xs)) H
theorem zx1:OpR X (compareOp .In) (rIn X.K false):=by
 intro pins s σ H x y v u Q I rx ry h
 obtain ⟨p,xs,rfl,hq,fx,fs,q⟩:=h
 cases ry
 rcases hq with hq|hq
 ·obtain ⟨its,r,pl,hz⟩:=I.list hq
  refine SeqAt.in_listAt (eqU x) pl.isList (fun w hw=>zid rx fx r fs w (by simpa using hw)) ⟨.bl _,H,I,rfl,?_⟩
  rw [show its.toArray.any (eqU x)=its.any (eqU x) by simp,zic r fs]
  exact q
 ·obtain ⟨its,r,pl,hz⟩:=I.tuple hq
  refine SeqAt.in_tupleAt (eqU x) pl (fun w hw=>zid rx fx r fs w (by simpa using hw)) ⟨.bl _,H,I,rfl,?_⟩
  rw [show its.toArray.any (eqU x)=its.any (eqU x) by simp,zic r fs]
  exact q
theorem zx2:OpR X (compareOp .NotIn) (rIn X.K true):=by
 intro pins s σ H x y v u Q I rx ry h
 obtain ⟨p,xs,rfl,hq,fx,fs,q⟩:=h
 cases ry
 rcases hq with hq|hq
 ·obtain ⟨its,r,pl,hz⟩:=I.list hq
  refine SeqAt.notIn_listAt (eqU x) pl.isList (fun w hw=>zid rx fx r fs w (by simpa using hw)) ⟨.bl _,H,I,rfl,?_⟩
  rw [show its.toArray.any (eqU x)=its.any (eqU x) by simp,zic r fs]
  exact q
 ·obtain ⟨its,r,pl,hz⟩:=I.tuple hq
  refine SeqAt.notIn_tupleAt (eqU x) pl (fun w hw=>zid rx fx r fs w (by simpa using hw)) ⟨.bl _,H,I,rfl,?_⟩
  rw [show its.toArray.any (eqU x)=its.any (eqU x) by simp,zic r fs]
  exact q
theorem call_len_seq:CallR X (.builtin "len") (fun xs H Q=>∃p ys,xs=[.ref p]/\(SqL X.K H p ys∨SqT X.K H p ys)/\Q (.int ys.length) H):=by
 intro pins s σ H xs us Q I r h
 obtain ⟨p,ys,rfl,hq,q⟩:=h
 obtain ⟨u,rfl,rx⟩:=zfw r
 cases rx
 have hn:=zg4
 rcases hq with hq|hq
 ·obtain ⟨its,r',pl,hz⟩:=I.list hq
  have hlen:=r'.length
  exact Calls.call_len_list pl.isList (by simp only [List.size_toArray] <;> omega) ⟨.int ys.length,H,I.tok _,⟨s.toks+1,by rw [List.size_toArray,hlen]⟩,q⟩
 ·obtain ⟨its,r',pl,hz⟩:=I.tuple hq
  have hlen:=r'.length
  exact len_tuple pl (by simp only [List.size_toArray] <;> omega) ⟨.int ys.length,H,I.tok _,⟨s.toks+1,by rw [List.size_toArray,hlen]⟩,q⟩
theorem zx3:CallR X (.builtin "len") (fun xs H Q=>∃z,xs=[.str z]/\z.length<=sizeLine/\Q (.int z.length) H):=by
 intro pins s σ H xs us Q I r h
 obtain ⟨z,rfl,hz,q⟩:=h
 obtain ⟨u,rfl,t,rfl⟩:=zfw r
 have hn:=zg4
 exact len_str (by omega) ⟨.int z.length,H,I.tok _,⟨_,rfl⟩,q⟩
theorem CallR.or {f:Value}{r r':List V->Hp->VK->Prop}(h:CallR X f r) (h':CallR X f r'):CallR X f (fun xs H Q=>r xs H Q∨r' xs H Q):=by
 intro pins s σ H xs us Q I rs q
 rcases q with q|q
 ·exact h pins s σ H xs us Q I rs q
 ·exact h' pins s σ H xs us Q I rs q
theorem zx4:CallR X (.type "tuple") (fun xs H Q=>∃p ys,xs=[.ref p]/\((SqL X.K H p ys/\∀l,H l=none->Q (.ref l) (upd H l (.tup ys)))∨(SqT X.K H p ys/\Q (.ref p) H))):=by
 intro pins s σ H xs us Q I r h
 obtain ⟨p,ys,rfl,h⟩:=h
 obtain ⟨u,rfl,rx⟩:=zfw r
 cases rx
 rcases h with ⟨hq,q⟩|⟨hq,q⟩
 ·obtain ⟨its,r',pl,hz⟩:=I.list hq
  have hlen:=r'.length
  refine call_tuple_list pl.isList (fun h' kp=>?_) (by simp only [List.size_toArray] <;> omega)
  have I1:Inv X pins σ H { s with heap:=h' }:=I.kept (t':=s.toks) kp
  have I2:Inv X pins σ (upd H h'.objs.size (.tup ys)) { s with heap:=h'.push { cls:=.type "tuple",data:=.seq its.toArray } } :=
   I1.laid (t':=s.toks) (fun b o e=>qps _ e) (qlr _) (show ObjOk X.prog X.w _ _ _ (.tup ys) from ⟨hz,its,r',IsTup.new _ _⟩)
  exact ⟨.ref h'.objs.size,_,I2,rfl,q _ (I1.hok.fresh (qlr _))⟩
 ·obtain ⟨its,r',pl,hz⟩:=I.tuple hq
  exact call_tuple_same pl ⟨.ref p,H,I,rfl,q⟩
noncomputable def tyV (K:QFg) (T:String) (x:V) (H:Hp):Prop:=match x with
 | .str _=>T = "str"
 | .int _=>T = "int"
 | .ref p=>(T = "list"/\∃xs,SqL K H p xs)∨(T = "tuple"/\∃o,K.lookup p=some o/\o.cls=.type "tuple"/\o.dict=none) ∨
   (T = "dict"/\((∃kvs,H p=some (.dK kvs))∨∃kvs,H p=some (.dT kvs)))∨(T = "set"/\∃S n,H p=some (.set S n))
 | _=>False
theorem zx5 {pins:List (Addr × Obj)}{σ:St}{H:Hp}{s:Shared}{T:String}{x:V}{v:Value}(I:Inv X pins σ H s) (r:RelV x v) (ty:tyV X.K T x H) :
  s.TypeIs v T/\∀a,v=.ref a->∃ob,s.heap.get? a=some ob/\ob.dict=none:=by
 cases x with
 | str z =>
  obtain ⟨t,rfl⟩:=r
  cases (show T = "str" from ty)
  exact ⟨typeIs_str s z t,fun _ e=>nomatch e⟩
 | int i =>
  obtain ⟨t,rfl⟩:=r
  cases (show T = "int" from ty)
  exact ⟨typeIs_int s i t,fun _ e=>nomatch e⟩
 | ref p =>
  cases r
  rcases ty with ⟨rfl,xs,hq⟩|⟨rfl,o,hk,hc,hd⟩|⟨rfl,hk⟩|⟨rfl,S,n,hk⟩
  ·obtain ⟨its,_,pl,_⟩:=I.list hq
   refine ⟨pl.isList.typeIs,fun a e=>?_⟩
   cases e
   obtain ⟨o,n,e,c,hd,_⟩:=pl
   exact ⟨o,e,hd⟩
  ·refine ⟨⟨o,I.kIn p o hk,hc⟩,fun a e=>?_⟩
   cases e
   exact ⟨o,I.kIn _ o hk,hd⟩
  ·have z:∃o,s.heap.get? p=some o/\o.ExactDict:=by
    rcases hk with ⟨kvs,hk⟩|⟨kvs,hk⟩
    ·obtain ⟨_,_,_,_,o,_,_,e,ex,_⟩:=I.hok p _ hk
     exact ⟨o,e,ex⟩
    ·obtain ⟨_,_,_,_,o,_,_,e,ex,_⟩:=I.hok p _ hk
     exact ⟨o,e,ex⟩
   obtain ⟨o,e,ex⟩:=z
   refine ⟨⟨o,e,ex.1⟩,fun a e2=>?_⟩
   cases e2
   exact ⟨o,e,ex.2.1⟩
  ·obtain ⟨o,_,_,_,e,ex,_⟩:=I.hok p _ hk
   refine ⟨⟨o,e,ex.1⟩,fun a e2=>?_⟩
   cases e2
   exact ⟨o,e,ex.2.1⟩
 | _=>exact False.elim ty
noncomputable def tBM (K:QFg) (T:String) (r:V->List V->Hp->VK->Prop) (to:TE) (t:TA):TE:=fun σ H Q=>to σ H fun x H1=>tyV K T x H1/\t σ H1 fun xs H2=>r x xs H2 Q
variable {o e:Expr}{es:List Expr}{to:TE}{t:TA}{name:Str}{apos cpos:Pos}{T id:String}{r:V->List V->Hp->VK->Prop}
theorem zx6 (pa:PlainAttrs T) (slot:Slot T name id) (hty:typeOf (.builtin id)=pure (.type "method_descriptor")) (hm:MtR X id r) (ho:PE X o to) (ha:PA X (e :: es) t)
  (hbase:attributeBase o name X.env (eval o X.env)=eval o X.env:=by rfl)
  (hfew:((backTo cpos (starEach (e :: es) X.env)).all (fun x=>!x.1) && (backToKw cpos (keywordEach [] X.env)).all (fun x=>x.1.isSome)
   && decide ((e :: es).length+([]:List Keyword).length+(if ([]:List Keyword).isEmpty then 0 else 1)<30))=true:=by rfl)
  (hline:(apos.endLine == cpos.line)=true:=by rfl) (hs:starEach (e :: es) X.env=(false,eval e X.env) :: starEach es X.env:=by rfl) (hplain:(backTo cpos (starEach es X.env)).any (·.1)=false:=by rfl) :
  PE X (.Call (.Attribute o name apos) (e :: es) [] cpos) (tBM X.K T r to t):=by
 intro pins s σ H Q I h
 refine wpAny_Call_method_late hbase hfew hline rfl (thn (ho pins s σ H _ I h) fun v s1 ⟨x,H1,I1,r1,ty,q1⟩=>?_)
 obtain ⟨h1,h2⟩:=zx5 I1 r1 ty
 refine ⟨T,id,pa,slot,hty,h1,h2,?_⟩
 have hA:=ha cpos pins s1 σ H1 _ I1 q1
 rw [hs] at hA ⊢
 refine Calls.callWith_builtin (by show (false || (backTo cpos (starEach es X.env)).any (·.1))=false;rw [hplain] <;> rfl) (Calls.evalArgs_plain ?_)
 exact thn hA fun us s2 ⟨vs,H2,I2,r2,q2⟩=>hm pins s2 σ H2 x vs v us Q I2 r1 r2 q2
end
noncomputable def MtM (X:Cx) (id:String) (r:V->List V->Hp->VK->Prop):Prop :=
 ∀(pins:List (Addr × Obj)) (s:Shared) (σ:St) (H:Hp) (x:V) (xs:List V) (v:Value) (us:List Value) (Q:VK),Inv X pins σ H s->RelV x v->Vals xs us->r x xs H Q ->
  wpAny (model X.prog X.w) X.A (call (.builtin id) (v :: us)) (EP X pins σ Q) X.xe s
theorem Vals.one:∀{x:V}{us:List Value},Vals [x] us->∃u,us=[u]/\RelV x u
 | _,_,.cons r .nil=>⟨_,rfl,r⟩
theorem Vals.two {x y:V}{us:List Value}(h:Vals [x,y] us):∃u v,us=[u,v]/\RelV x u/\RelV y v:=by
 cases h with
 | cons r t =>
  cases t with
  | cons q t2=>cases t2;exact ⟨_,_,rfl,r,q⟩
theorem Vals.zero:∀{us:List Value},Vals [] us->us=[]
 | _,.nil=>rfl
theorem Vals.eraseIdx:∀{xs:List V}{us:List Value}(i:Nat),Vals xs us->Vals (xs.eraseIdx i) (us.eraseIdx i)
 | _,_,_,.nil=>.nil
 | _,_,0,.cons _ t=>t
 | _,_,i+1,.cons r t=>.cons r (Vals.eraseIdx i t)
theorem Vals.reverse {xs:List V}{us:List Value}(h:Vals xs us):Vals xs.reverse us.reverse:=by
 induction h with
 | nil=>exact .nil
 | cons r t ih=>rw [List.reverse_cons,List.reverse_cons];exact Vals.append ih (.cons r .nil)
theorem Vals.rep {xs:List V}{us:List Value}(h:Vals xs us):∀k:Nat,Vals (List.replicate k xs).flatten (List.replicate k us).flatten
 | 0=>.nil
 | k+1=>by
  rw [List.replicate_succ,List.replicate_succ,List.flatten_cons,List.flatten_cons]
  exact Vals.append h (Vals.rep h k)
theorem zo8 {α:Type}:∀(l:List α) (i:Nat),(l.eraseIdx i).length<=l.length
 | [],_=>qlr _
 | _ :: _,0=>Nat.le_succ _
 | _ :: r,i+1=>Nat.succ_le_succ (zo8 r i)
theorem zo9 (its:List Value):∀(k:Nat) (acc:List Value),
  List.foldl (fun x1 x2=>x1++x2) acc.toArray (List.replicate k its.toArray)=(acc++(List.replicate k its).flatten).toArray
 | 0,acc=>by simp
 | k+1,acc=>by
  have e:acc.toArray++its.toArray=(acc++its).toArray:=by simp
  have e2:(acc++its)++(List.replicate k its).flatten=acc++(List.replicate (k+1) its).flatten:=by
   rw [List.replicate_succ,List.flatten_cons,qaa]
  rw [←e2,←zo9 its k (acc++its),←e,List.replicate_succ,List.foldl_cons]
section
variable {X:Cx}{pins:List (Addr × Obj)}{σ:St}{H:Hp}{s:Shared}{l b:Addr}{xs ys zs:List V}
theorem Inv.lset {its its':List Value}{n:Nat}{f:Array Value->Array Value}{t':Nat}(I:Inv X pins σ H s) (hH:H l=some (.lst xs))
  (e:s.heap.get? l=some { cls:=.type "list",data:=.seq its.toArray n }) (hf:f its.toArray=its'.toArray) (hv:Vals ys its') (hz:ys.length<=sizeLine) :
  Inv X pins σ (upd H l (.lst ys)) { s with heap:=s.heap.update l (Obj.mapSeq f),toks:=t' }:=by
 have q:=PySem.IsL.update e f
 rw [hf] at q
 refine I.write (x:=l) (e:=l) (by rw [hH];exact trivial) (.inl rfl) (fun b' u hb hu=>(Heap.get?_update_other s.heap (Obj.mapSeq f) (Ne.symm hb)).trans hu) ⟨_,q⟩ ?_
 exact ⟨hz,its',_,hv,q⟩
theorem Inv.lnew {its:List Value}{t':Nat}(I:Inv X pins σ H s) (hv:Vals ys its) (hz:ys.length<=sizeLine) :
  Inv X pins σ (upd H s.heap.objs.size (.lst ys)) { s with heap:=s.heap.push { cls:=.type "list",data:=.seq its.toArray },toks:=t' } :=
 I.laid (fun _ _ q=>qps _ q) (qlr _) ⟨hz,its,0,hv,Heap.get?_push_size _ rfl⟩
theorem Inv.fresh (I:Inv X pins σ H s):H s.heap.objs.size=none:=I.hok.fresh (qlr _)
theorem Inv.lstM (I:Inv X pins σ H s) (hH:H l=some (.lst xs)):xs.length<=sizeLine/\∃(its:List Value) (n:Nat),Vals xs its/\xs.length=its.length/\s.heap.get? l=some { cls:=.type "list",data:=.seq its.toArray n }:=by
 obtain ⟨z,its,n,r,e⟩:=I.hok l _ hH
 exact ⟨z,its,n,r,r.length,e⟩
end
section
variable {X:Cx}
noncomputable def zpa:V->List V->Hp->VK->Prop:=fun x vs H Q=>∃l xs y,x=.ref l/\vs=[y]/\H l=some (.lst xs)/\xs.length<sizeLine/\Q .non (upd H l (.lst (xs++[y])))
theorem zpb:MtM X "list.append" zpa:=by
 intro pins s σ H x vs v us Q I rx rv h
 obtain ⟨l,xs,y,rfl,rfl,hH,hz,q⟩:=h
 cases rx
 obtain ⟨u,rfl,ru⟩:=rv.one
 obtain ⟨z,its,n,r,hl,e⟩:=I.lstM hH
 refine call_meets F.slot_list_append ⟨_,e,rfl⟩ F.entry_list_append (F.args_list_append_2 _ _) (PySem.list_append l its.toArray n u (by rw [List.size_toArray];omega)) ⟨e,?_⟩
 refine ⟨.non,_,I.lset (its':=its++[u]) hH e (by simp) (r.append (.cons ru .nil)) ?_,rfl,q⟩
 rw [qla,List.length_singleton]
 omega
noncomputable def zpc:V->List V->Hp->VK->Prop:=fun x vs H Q=>∃l xs i k y,x=.ref l/\vs=[.int i]/\H l=some (.lst xs)/\-(2 ^ 63)<=i/\i<2 ^ 63/\seqIndex? i xs.length=some k/\xs[k]? = some y/\Q y (upd H l (.lst (xs.eraseIdx k)))
theorem zx7:MtM X "list.pop" zpc:=by
 intro pins s σ H x vs v us Q I rx rv h
 obtain ⟨l,xs,i,k,y,rfl,rfl,hH,h1,h2,hk,hy,q⟩:=h
 cases rx
 obtain ⟨u,rfl,ru⟩:=rv.one
 obtain ⟨t,rfl⟩:=ru
 obtain ⟨z,its,n,r,hl,e⟩:=I.lstM hH
 obtain ⟨w,hw,rw'⟩:=r.get hy
 refine call_meets F.slot_list_pop ⟨_,e,rfl⟩ F.entry_list_pop (F.args_list_pop_2 _ _)
  (MeetsSeq.list_pop_at l its.toArray n i t k w (fitsIndex_both h1 h2) (by rw [List.size_toArray,←hl];exact hk) (by rw [←Array.getElem?_toList];exact hw) (by rw [List.size_toArray];omega)) ⟨e,?_⟩
 refine ⟨y,_,I.lset (its':=its.eraseIdx k) hH e ?_ (r.eraseIdx k) ?_,rw',q⟩
 ·show its.toArray.eraseIdxIfInBounds k=(its.eraseIdx k).toArray
  rw [List.eraseIdxIfInBounds_toArray]
 ·have:=zo8 xs k
  omega
noncomputable def zpd:R2:=fun x y H Q=>∃l b xs zs,x=.ref l/\y=.ref b/\H l=some (.lst xs)/\H b=some (.lst zs)/\xs.length+zs.length<=sizeLine/\∀p,H p=none->Q (.ref p) (upd H p (.lst (xs++zs)))
theorem zx8:OpR X (binaryOp .Add) zpd:=by
 intro pins s σ H x y v u Q I rx ry h
 obtain ⟨l,b,xs,zs,rfl,rfl,hH,hB,hz,q⟩:=h
 cases rx
 cases ry
 obtain ⟨z,its,n,r,hl,e⟩:=I.lstM hH
 obtain ⟨z2,its2,n2,r2,hl2,e2⟩:=I.lstM hB
 refine PySem.P.add_list e e2 ?_ (by rw [List.size_toArray,List.size_toArray];omega)
 have ea:its.toArray++its2.toArray=(its++its2).toArray:=by simp
 rw [ea]
 exact ⟨.ref _,_,I.lnew (t':=s.toks) (r.append r2) (by rw [qla];omega),rfl,q _ I.fresh⟩
theorem zpe {α:Type}(xs:List α) (k:Nat):(List.replicate k xs).flatten.length=k*xs.length:=by
 induction k with
 | zero=>simp
 | succ k ih=>rw [List.replicate_succ,List.flatten_cons,qla,ih,Nat.succ_mul,Nat.add_comm]
end
section
variable {prog:Program}{w:World}{A:Around}{E:Value->Shared->Prop}{s:Shared}
end
section
variable {X:Cx}
end
end L2
namespace Att
open PySem PySem.W PySem.Calls PyProof.Rows
theorem zx9 {P:Params}{h:Heap}:∀(ns:List Int) (vs:List Value),WellAll P h vs (ns.map WData.int)->IntsAre vs ns:=by
 intro ns
 induction ns with
 | nil =>
  intro vs w
  rw [List.map_nil] at w
  cases w
  exact .nil
 | cons n ns ih =>
  intro vs w
  rw [List.map_cons] at w
  cases w with
  | cons a b =>
   cases a
   exact .cons _ _ (ih _ b)
theorem zya {l:OpenLaw}{n:Nat}(hn:l.most=some n) {P:Params}{h:Heap}{args:List WData}{vals:List Value}
  (hpre:l.row.toRowW.claim.pre args=true) (hwl:WellAll P h vals args) :
  ∃a vs ns,vals=[Value.ref a]/\args=[WData.list (ns.map WData.int)]/\h.get? a=some { cls:=.type "list",data:=.seq vs.toArray }/\IntsAre vs ns/\ns.length<=n:=by
 have hsh:WShape.hasAll [] args [.list .int]=true:=(pre_splitW hpre).1
 have hc:l.pre.holds [] { args:=args }=true:=(pre_splitW hpre).2
 obtain ⟨d,r,rfl,h1,h2⟩:=hasAllW_cons hsh
 obtain rfl:=hasAllW_nil h2
 obtain ⟨xs,rfl,h3⟩:=hasW_list h1
 obtain ⟨ns,rfl⟩:=items_int h3
 have hlen:ns.length<=n:=by
  unfold OpenLaw.pre at hc
  have h4:(WTm.not (.lt (.lit (.int (n:Int))) (.len (.arg 0)))).holds [] { args:=[.list (ns.map .int)] }=true:=by
   have h4:=(holds_andW hc).1
   rw [hn] at h4
   exact h4
  have h5:=condW_of h4 (w_not (w_lt w_lit (w_len_list (w_arg rfl))))
  rw [qlm] at h5
  refine Nat.le_of_not_lt fun q=>?_
  have q':(n:Int)<((ns.length:Nat):Int):=by omega
  first
   | (rw [decide_eq_true q'] at h5;exact absurd h5 (by decide))
   | (simp at h5;omega)
 cases hwl with
 | cons w1 w2 =>
  cases w2
  cases w1 with
  | list ho hall=>exact ⟨_,_,ns,rfl,rfl,ho,zx9 ns _ hall,hlen⟩
theorem zyb (l:OpenLaw) (args:List WData):l.row.toRowW.claim.post args (.bool true) args=true :=
 postW_of (r:=l.row.toRowW) (X:=(true == true))
  (show WShape.has [] (.bool true) .bool=true by first|rfl|decide|simp [WShape.has,WShape.arms,WShape.armsAll])
  (show (WTm.eq .res (.lit (.bool true))).value [] { args:=args,res:=some (.bool true),after:=args }=some (.bool (true == true)) from w_eq_bool (w_res rfl) w_lit) rfl
theorem attach_call {l:OpenLaw}{n:Nat}{q:Program}{loose:List Str}{XP:(Str->Option Value)->Heap->Prop}{YP:World->Heap->Prop}{d:DefRec}
  (hn:l.most=some n) (hdf:d.params.defaults=[])
  (call:∀(w:World) (s₀ s₁:Shared) (mg mb:Str->Option Value) (fa:Addr) (o:Obj) (pm cd doc:Value) (a:Addr) (vs:List Value) (ns:List Int),
   Ground q loose [] XP w s₀ mg mb s₁.heap->YP w s₁.heap ->
   s₁.heap.get? fa=some o->o.data=.func (docDef d.name d.params d.body d.scope pm cd doc)->s₁.heap.CodeRec cd d.name->mg d.name=some (.ref fa) ->
   s₁.heap.get? a=some { cls:=.type "list",data:=.seq vs.toArray }->IntsAre vs ns->ns.length<=n->s₁.gens = #[] ->
   codeAny (model l.prog w) callerA (.call (.ref fa) ⟨[.ref a],[]⟩) (fun r s'=>r=.ok (.ret (.bool true))/\OldK s₁.heap s'.heap/\s'.os=s₁.os/\AllBare s'.gens) s₁) :
  WalkO q loose XP YP l.row.toRowW d [] (fun f vs=>PySem.call f vs):=by
 intro w s₀ s₁ mg mb G Y fa o pm cd doc dV kV ho hd hcd hD hmg hg args vals as hpre hlay hrd hwl hlo
 obtain rfl:dV=.none:=Dflts.none hD hdf
 obtain rfl:kV=.none:=Dflts.noKw hD
 obtain ⟨a,vs,ns,rfl,rfl,hobj,hints,hlen⟩:=zya hn hpre hwl
 refine enter_call (codeAny_mono (call w s₀ s₁ mg mb fa o pm cd doc a vs ns G Y ho (fd_plain hd) hcd hmg hobj hints hlen hg) fun r s' hq=>?_)
 obtain ⟨rfl,h2,h3,h4⟩:=hq
 exact ⟨.inl ⟨.bool true,.bool true,[],rfl,fun _=>rfl,.bool true,zyb l _,fun _=>⟨List.Pairwise.nil,fun _ hm=>(nomatch hm)⟩⟩,h2,h3,h4⟩
section
variable {prog:Program}{w:World}{A:Around}{E:Value->Shared->Prop}{s:Shared}{K:Frag}
end
end Att
namespace L2
open PySem PySem.Spec PyProof.Rows
theorem zpf:∀{vs:List Value}{ns:List Int},IntsAre vs ns->Vals (ns.map V.int) vs
 | _,_,.nil=>.nil
 | _,_,.cons n t h=>.cons ⟨t,rfl⟩ (zpf h)
noncomputable def zjf (H:Hp):Prop:=∀b,H b=none∨∃o xs,H b=some (.frz o (.lst xs))
theorem zyc {P:Program}{w:World}{K:QFg}{mg mb:Str->Option Value}{CX:CXT}{k:Nat}{fa a:Addr}{fd:FuncData}{x:Str}{sp:Sp}{s₁:Shared}{vs:List Value}{ns:List Int}
  (KX:K.In s₁.heap) (hns:s₁.heap.Ns mainGlobals mg) (hb:s₁.heap.Ns builtinsNs mb) (hbb:∀x:Str,x≠"__name__"->mb x=bootBuiltins x) (hlim:s₁.heap.NoLimit) (hg:s₁.gens = #[])
  (ha:s₁.heap.get? a=some { cls:=.type "list",data:=.seq vs.toArray }) (hi:IntsAre vs ns) (hl:ns.length<=sizeLine) (hr:Room k callerA)
  (F:∀base:Heap,K.In base->base.Ns mainGlobals mg->FnOk P w K mg base CX k fa fd [x] sp) (hbind:∀(s:Shared) (u:Value),BindsTo s fd ⟨[u],[]⟩ [(x,u)])
  (hsp:∀H:Hp,zjf H->SqL K H a (ns.map V.int)->sp [.ref a] H (fun v _=>v=.bl true) fun _ _ _=>False)
  (hCX:∀H e s',CX [] H s₁ (fun _ _ _=>False) e s'->False) :
  codeAny (model P w) callerA (.call (.ref fa) ⟨[.ref a],[]⟩) (fun r s'=>r=.ok (.ret (.bool true))/\OldK s₁.heap s'.heap/\s'.os=s₁.os/\AllBare s'.gens) s₁:=by
 have rv:=zpf hi
 have lenV:=hi.length
 have core:∀H:Hp,zjf H->SqL K H a (ns.map V.int)->HOk P w H s₁.heap->(∀b,H b≠none->b=a)->(H a≠none->K.lookup a=none) ->
   codeAny (model P w) callerA (.call (.ref fa) ⟨[.ref a],[]⟩) (fun r s'=>r=.ok (.ret (.bool true))/\OldK s₁.heap s'.heap/\s'.os=s₁.os/\AllBare s'.gens) s₁:=by
  intro H hO hS hok hA hK
  have base_of:∀{b:Addr} {o:Obj},s₁.heap.get? b=some o->H b=none->(zev s₁.heap H).get? b=some o:=fun e n=>zux e n
  have noA:∀{b:Addr} {o:Obj} {es:Array DictEntry} {ep:Nat},s₁.heap.get? b=some o->o.data=.dict es ep->H b=none:=fun {b o es ep} e d=>by
   cases q:H b with
   | none=>rfl
   | some u =>
    have e':b=a:=hA b (by rw [q];simp)
    subst e'
    rw [ha] at e;cases e
    have d':Data.seq vs.toArray _=Data.dict es ep:=d
    cases d'
  have nsK:∀{b:Addr} {m:Str->Option Value},s₁.heap.Ns b m->(zev s₁.heap H).Ns b m:=fun {b m} ⟨o,es,ep,e,d,r⟩=>⟨o,es,ep,base_of e (noA e d),d,r⟩
  have hKb:K.In (zev s₁.heap H):=fun b o e=>base_of (KX b o e) (by
   cases q:H b with
   | none=>rfl
   | some u =>
    have e':b=a:=hA b (by rw [q];simp)
    subst e'
    rw [hK (by rw [q];simp)] at e;cases e)
  have hM:Mod K mg (zev s₁.heap H):=⟨hKb,nsK hns,⟨mb,nsK hb,hbb⟩,let ⟨mc,h1,h2⟩:=hlim;⟨mc,nsK h1,h2⟩⟩
  have e0:Env0 P w K mg (zev s₁.heap H) callerA [] s₁ H:=⟨rfl,hM,fun b o e=>zuy e,Nat.le_of_eq (zuw _ _),trivial,fun b hb=>absurd (show b∈([]:List Addr) from hb) (by simp),hok,.of_eq hg⟩
  refine codeAny_mono ((F _ hKb (nsK hns)).run callerA [] s₁ H ⟨[.ref a],[]⟩ [.ref a] [.ref a] _ _ hr e0 (hbind s₁ (.ref a)) (.cons rfl .nil) (hsp H hO hS)) fun r s' h=>?_
  cases r with
  | error e=>exact (hCX H e s' h).elim
  | ok fl =>
   cases fl with
   | next=>exact False.elim h
   | brk=>exact False.elim h
   | cont=>exact False.elim h
   | ret u =>
    obtain ⟨v,H',os,bare,un,hok',r',q⟩:=h
    have q':v=.bl true:=q
    subst q'
    obtain rfl:u=Value.bool true:=r'
    refine ⟨rfl,OldK.of_keep fun b o e=>?_,os,bare⟩
    cases q:H b with
    | none=>exact un.keep b o e q (by intro z;exact absurd (show b∈([]:List Addr) from z) (by simp)) (by simp)
    | some u =>
     rcases hO b with z|⟨ob,xs,z⟩
     ·rw [q] at z;cases z
     ·have z2:=un.frzs b ob _ z
      obtain ⟨e1,_⟩:=hok b _ z
      obtain ⟨e2,_⟩:=hok' b _ z2
      rw [e] at e1;cases e1
      exact e2
 cases hk:K.lookup a with
 | some o =>
  have e:=KX a o hk
  rw [ha] at e
  cases e
  refine core (fun _=>none) (fun _=>.inl rfl) (.inr ⟨_,vs.toArray,_,hk,rfl,rfl,rfl,by rw [List.size_toArray,lenV];exact hl,by simpa using rv⟩) (fun b u z=>by have z':(none:Option HO)=some u:=z;cases z') (fun b z=>absurd rfl z) fun z=>absurd rfl z
 | none =>
  refine core (fun b=>if b=a then some (.frz { cls:=.type "list",data:=.seq vs.toArray } (.lst (ns.map V.int))) else none) (fun b=>?_) (.inl (.inr ⟨{ cls:=.type "list",data:=.seq vs.toArray },if_pos rfl⟩)) (fun b u z=>?_) (fun b z=>?_) fun _=>hk
  ·by_cases hb:b=a
   ·exact .inr ⟨_,_,if_pos hb⟩
   ·exact .inl (if_neg hb)
  ·by_cases hb:b=a
   ·have z':=(if_pos hb).symm.trans z
    cases z'
    subst hb
    exact ⟨ha,by rw [qlm];exact hl,vs,_,rv,ha⟩
   ·have z':=(if_neg hb).symm.trans z
    cases z'
  ·by_cases hb:b=a
   ·exact hb
   ·exact absurd (if_neg hb) z
theorem walk_of {l:PySem.W.OpenLaw}{n k:Nat}{q:Program}{loose:List Str}{XP:(Str->Option Value)->Heap->Prop}{YP:World->Heap->Prop}{d:DefRec}{K:Params->QFg}{CX:World->CXT}{sp:World->Sp}{x:Str}
  (hn:l.most=some n) (hn2:n<=sizeLine) (hdf:d.params.defaults=[]) (hr:Room k callerA)
  (hY:∀(w:World) (h:Heap),YP w h->(K w.params).In h)
  (F:∀(w:World) (mg:Str->Option Value) (fa:Addr) (h:Heap),(K w.params).In h->h.Ns mainGlobals mg->mg d.name=some (.ref fa) ->
   ∃fd:FuncData,(∀(s:Shared) (u:Value),BindsTo s fd ⟨[u],[]⟩ [(x,u)]) /\
    ∀base:Heap,(K w.params).In base->base.Ns mainGlobals mg->FnOk l.prog w (K w.params) mg base (CX w) k fa fd [x] (sp w))
  (hsp:∀(w:World) (H:Hp) (a:Addr) (ns:List Int),ns.length<=n->zjf H->SqL (K w.params) H a (ns.map V.int)->sp w [.ref a] H (fun v _=>v=.bl true) fun _ _ _=>False)
  (hCX:∀(w:World) (H:Hp) (s:Shared) (e:Value) (s':Shared),CX w [] H s (fun _ _ _=>False) e s'->False) :
  PySem.W.WalkO q loose XP YP l.row.toRowW d [] (fun f vs=>PySem.call f vs):=by
 refine Att.attach_call hn hdf fun w s₀ s₁ mg mb fa o pm cd doc a vs ns G Y ho hd hcd hmg hobj hints hlen hg=>?_
 have KX:=hY w _ Y
 obtain ⟨fd,hb,hF⟩:=F w mg fa _ KX G.T.g hmg
 exact zyc KX G.T.g G.T.b G.T.builtins G.T.nolimit hg hobj hints (Nat.le_trans hlen hn2) hr hF hb (fun H hO hS=>hsp w H a ns hlen hO hS) fun H e s'=>hCX w H s₁ e s'
noncomputable def zbr (s:Stmt):Arguments:=match s with
 | .FunctionDef _ a _ _ _ _ _ _ _ _=>a
 | _=>{ posonlyargs:=[],args:=[],vararg:=none,kwonlyargs:=[],kw_defaults:=[],kwarg:=none,defaults:=[] }
noncomputable def zbi (s:Stmt):List Stmt:=match s with
 | .FunctionDef _ _ b _ _ _ _ _ _ _=>b
 | _=>[]
noncomputable def zau (s:Stmt):Scope:=match s with
 | .FunctionDef _ _ _ _ _ _ sc _ _ _=>sc
 | _=>{ kind:=.function,names:=[],isGenerator:=false,isCoroutine:=false }
noncomputable abbrev CX0:CXT:=fun _ _ _ _ _ _=>False
noncomputable abbrev E0:XK:=fun _ _ _=>False
theorem zpg {X:Cx}:zla CX0 X E0:=fun _ _ _ _ _ _ _ h=>h.elim
structure Fun (K:QFg) (x qual:Str) (st:Stmt) (f:Addr) (fd:FuncData):Prop where
 ex:∃(oc:Value) (od:Option Addr) (kV doc pm:Value) (an:Option Addr) (cdv ct:Value) (osl:Array (Option Value)),
  fd=PySem.W.fnOf x qual (zbr st) (zbi st) (zau st) .none kV doc pm an cdv ct/\K.lookup f=some ⟨oc,od,.func fd,osl⟩/\PySem.W.codeIn K cdv qual=true
 kp:PySem.W.keepIn K (.ref f)=true
section
variable {P:Program}{w:World}{K:QFg}{mg:Str->Option Value}{base:Heap}
theorem Fun.binds {x qual:Str}{st:Stmt}{f:Addr}{fd:FuncData}{ps:List Str}(F:Fun K x qual st f fd)
  (h:∀(kV doc pm:Value) (an:Option Addr) (cdv ct:Value) (us:List Value),us.length=ps.length->bindArgs (PySem.W.fnOf x qual (zbr st) (zbi st) (zau st) .none kV doc pm an cdv ct) ⟨us,[]⟩=pure (ps.zip us)):Binds K fd ps []:=by
 obtain ⟨oc,od,kV,doc,pm,an,cdv,ct,osl,rfl,lk,hcd⟩:=F.ex
 exact .all (h kV doc pm an cdv ct)
theorem zb1 {x qual:Str}{st:Stmt}{f:Addr}{oc:Value}{od an:Option Addr}{osl:Array (Option Value)}{kV doc pm cdv ct:Value}(l:K.lookup f=some ⟨oc,od,.func (PySem.W.fnOf x qual (zbr st) (zbi st) (zau st) .none kV doc pm an cdv ct),osl⟩)
  (c:PySem.W.codeIn K cdv qual=true) (k:PySem.W.keepIn K (.ref f)=true):Fun K x qual st f (PySem.W.fnOf x qual (zbr st) (zbi st) (zau st) .none kV doc pm an cdv ct):=⟨⟨oc,od,kV,doc,pm,an,cdv,ct,osl,rfl,l,c⟩,k⟩
end
section
variable {X:Cx}
end
theorem zew {A B:Prop}(h:B):if false=true then A else B:=by
 rw [if_neg Bool.false_ne_true]
 exact h
theorem zex {A B:Prop}(h:A):if true=true then A else B:=by
 rw [if_pos rfl]
 exact h
section
variable {κ:Type} [DecidableEq κ]
noncomputable def zjg (kvs:List (κ × V)) (k:κ):Option V:=(kvs.find? fun kv=>decide (kv.1=k)).map (·.2)
noncomputable def zie (kvs:List (κ × V)) (k:κ) (v:V):List (κ × V) :=
 if (kvs.any fun kv=>decide (kv.1=k))=true then kvs.map (fun kv=>if kv.1=k then (kv.1,v) else kv) else kvs++[(k,v)]
theorem RelO.getD {o:Option V}{u:Option Value}{d:V}{d':Value}(r:RelO o u) (rd:RelV d d'):RelV (o.getD d) (u.getD d'):=by
 cases o with
 | none=>cases u with
  | none=>exact rd
  | some _=>exact (show False from r).elim
 | some _=>cases u with
  | none=>exact (show False from r).elim
  | some _=>exact r
end
noncomputable abbrev KT (H:Hp):List (List Key × V)->List (List Key × Addr × Value)->Prop:=Paired fun p q=>p.1=q.1/\H q.2.1=some (.tup (p.1.map kV))/\RelV p.2 q.2.2
theorem KT.keeps {H H':Hp}{kvs:List (List Key × V)}{xs:List (List Key × Addr × Value)}(r:KT H kvs xs) (ht:∀b ys,H b=some (.tup ys)->H' b=some (.tup ys)):KT H' kvs xs :=
 Paired.mapP r fun _ _ z=>⟨z.1,ht _ _ z.2.1,z.2.2⟩
section
variable {P:Program}{w:World}{H:Hp}{h:Heap}{a:Addr}
end
noncomputable def DGet (H:Hp) (a:Addr) (y:V) (r:Option V):Prop :=
 (∃kvs k,Rd H a (.dK kvs)/\y=kV k/\r=zjg kvs k)∨∃kvs k b,Rd H a (.dT kvs)/\y=.ref b/\H b=some (.tup (k.map kV))/\r=zjg kvs k
noncomputable def DPut (H:Hp) (a:Addr) (y v:V) (H':Hp):Prop :=
 (∃kvs k,H a=some (.dK kvs)/\y=kV k/\kvs.length<sizeLine/\H' = upd H a (.dK (zie kvs k v))) ∨
 ∃kvs k b,H a=some (.dT kvs)/\y=.ref b/\H b=some (.tup (k.map kV))/\kvs.length<sizeLine/\H' = upd H a (.dT (zie kvs k v))
theorem DGet.k {H:Hp}{a:Addr}{kvs:List (Key × V)}{k:Key}(e:H a=some (.dK kvs)):DGet H a (kV k) (zjg kvs k):=.inl ⟨kvs,k,.inl e,rfl,rfl⟩
theorem DGet.t {H:Hp}{a b:Addr}{kvs:List (List Key × V)}{k:List Key}(e:H a=some (.dT kvs)) (eb:H b=some (.tup (k.map kV))):DGet H a (.ref b) (zjg kvs k):=.inr ⟨kvs,k,b,.inl e,rfl,eb,rfl⟩
theorem DPut.k {H:Hp}{a:Addr}{kvs:List (Key × V)}{k:Key}{v:V}(e:H a=some (.dK kvs)) (hl:kvs.length<sizeLine):DPut H a (kV k) v (upd H a (.dK (zie kvs k v))):=.inl ⟨kvs,k,e,rfl,hl,rfl⟩
theorem DPut.t {H:Hp}{a b:Addr}{kvs:List (List Key × V)}{k:List Key}{v:V}(e:H a=some (.dT kvs)) (eb:H b=some (.tup (k.map kV))) (hl:kvs.length<sizeLine) :
  DPut H a (.ref b) v (upd H a (.dT (zie kvs k v))):=.inr ⟨kvs,k,b,e,rfl,eb,hl,rfl⟩
section
variable {X:Cx}{pins:List (Addr × Obj)}{σ:St}{H:Hp}{s:Shared}{a:Addr}{y v:V}{u r:Value}{o:Option V}{A:Around}{E:Value->Shared->Prop}
theorem Inv.big (I:Inv X pins σ H s):sysModules<s.heap.objs.size:=by
 have h:mainGlobals<s.heap.objs.size:=(I.mod.glob.keeps I.bk).lt
 exact Nat.lt_trans (by decide) h
end
section
variable {X:Cx}{pins:List (Addr × Obj)}{σ:St}{H:Hp}{s:Shared}{a:Addr}{kvs:List (Key × V)}{k:Key}{u:Value}{A:Around}{E:Value->Shared->Prop}
end
section
variable {X:Cx}{o i e value:Expr}{pos pos' tpos:Pos}{td ty tv:TE}
end
section
variable {X:Cx}{pos:Pos}
end
noncomputable def yea (kvs more:List (Key × V)):List (Key × V):=more.foldl (fun acc kv=>zie acc kv.1 kv.2) kvs
section
variable {X:Cx}{pins:List (Addr × Obj)}{σ:St}{H:Hp}{s:Shared}{a:Addr}{y d:V}{u r:Value}{o:Option V}{A:Around}{E:Value->Shared->Prop}
end
section
variable {X:Cx}{o e f:Expr}{apos cpos:Pos}{td ty tx:TE}
end
section
variable {X:Cx}{pins:List (Addr × Obj)}{σ:St}{H:Hp}{s:Shared}{a:Addr}{kvs:List (Key × V)}{A:Around}{E:Value->Shared->Prop}
end
section
variable {X:Cx}{pins:List (Addr × Obj)}{σ:St}{H:Hp}{s:Shared}{a:Addr}{y:V}{u:Value}{A:Around}{E:Value->Shared->Prop}
end
section
variable {X:Cx}
end
section
variable {κ:Type} [DecidableEq κ]
end
end L2
namespace L3
noncomputable abbrev St:=L2.St
open PySem PySem.Spec PyProof.Rows L2
inductive D where
 | non|bl (b:Bool)|int (i:Int)|str (x:Str)|tup (xs:List D)|ref (n:Nat)|fn (a:Addr)
inductive Ob where
 | lst (xs:List D)|flst (xs:List D)|iset (f:Int->Bool) (n:Nat)|dct (kvs:List (Key × D))|fdct (kvs:List (Key × D))|tdct (kvs:List (List Key × D))|ftdct (kvs:List (List Key × D))|tset (ks:List (List Int))|fnc (x:Str)|exc (c:Str)
noncomputable def Ob.mut:Ob->Bool
 | .flst _=>false
 | .fnc _=>false
 | _=>true
noncomputable abbrev Sto:=List Ob
noncomputable abbrev Lo:=List (Option D)
mutual
inductive RD (ρ:List Addr) (H:Hp):D->V->Prop where
 | non:RD ρ H .non .non
 | bl (b:Bool):RD ρ H (.bl b) (.bl b)
 | int (i:Int):RD ρ H (.int i) (.int i)
 | str (x:Str):RD ρ H (.str x) (.str x)
 | tup {xs:List D} {a:Addr} {vs:List V}:H a=some (.tup vs)->RDs ρ H xs vs->RD ρ H (.tup xs) (.ref a)
 | ref {n:Nat} {a:Addr}:ρ[n]? = some a->RD ρ H (.ref n) (.ref a)
 | fn (a:Addr):RD ρ H (.fn a) (.ref a)
inductive RDs (ρ:List Addr) (H:Hp):List D->List V->Prop where
 | nil:RDs ρ H [] []
 | cons {x:D} {v:V} {xs:List D} {vs:List V}:RD ρ H x v->RDs ρ H xs vs->RDs ρ H (x :: xs) (v :: vs)
end
structure Ext0 (ρ:List Addr) (H:Hp) (ρ':List Addr) (H':Hp):Prop where
 pre:∀(n:Nat) (a:Addr),ρ[n]? = some a->ρ'[n]? = some a
 tup:∀a vs,H a=some (.tup vs)->H' a=some (.tup vs)
 frz:∀a o u,H a=some (.frz o u)->H' a=some (.frz o u)
structure Ext (ρ:List Addr) (H:Hp) (ρ':List Addr) (H':Hp):Prop extends Ext0 ρ H ρ' H' where
 out:∀a (vs:HO),H a=some vs->(∀n:Nat,ρ[n]?≠some a)->H' a=some vs/\∀n:Nat,ρ'[n]?≠some a
theorem Ext.refl (ρ:List Addr) (H:Hp):Ext ρ H ρ H:=⟨⟨fun _ _ h=>h,fun _ _ h=>h,fun _ _ _ h=>h⟩,fun _ _ h n=>⟨h,n⟩⟩
theorem Ext.trans {ρ ρ1 ρ2:List Addr}{H H1 H2:Hp}(a:Ext ρ H ρ1 H1) (b:Ext ρ1 H1 ρ2 H2):Ext ρ H ρ2 H2 :=
 ⟨⟨fun n x h=>b.pre n x (a.pre n x h),fun n x h=>b.tup n x (a.tup n x h),fun n o x h=>b.frz n o x (a.frz n o x h)⟩,fun x vs h n=>let ⟨h1,n1⟩:=a.out x vs h n;b.out x vs h1 n1⟩
section
variable {ρ ρ':List Addr}{H H':Hp}
mutual
theorem RD.mono0 (e:Ext0 ρ H ρ' H'):∀{d:D}{v:V},RD ρ H d v->RD ρ' H' d v
 | _,_,.non=>.non
 | _,_,.bl b=>.bl b
 | _,_,.int i=>.int i
 | _,_,.str x=>.str x
 | _,_,.tup h r=>.tup (e.tup _ _ h) (RDs.mono0 e r)
 | _,_,.ref h=>.ref (e.pre _ _ h)
 | _,_,.fn a=>.fn a
theorem RDs.mono0 (e:Ext0 ρ H ρ' H'):∀{d:List D}{v:List V},RDs ρ H d v->RDs ρ' H' d v
 | _,_,.nil=>.nil
 | _,_,.cons r q=>.cons (RD.mono0 e r) (RDs.mono0 e q)
end
theorem RD.mono {d:D}{v:V}(r:RD ρ H d v) (e:Ext ρ H ρ' H'):RD ρ' H' d v:=r.mono0 e.toExt0
theorem RDs.mono {d:List D}{v:List V}(r:RDs ρ H d v) (e:Ext ρ H ρ' H'):RDs ρ' H' d v:=r.mono0 e.toExt0
theorem RDs.length:∀{d:List D}{v:List V},RDs ρ H d v->d.length=v.length
 | _,_,.nil=>rfl
 | _,_,.cons _ q=>congrArg (· + 1) (RDs.length q)
theorem RDs.get:∀{d:List D}{v:List V}{i:Nat}{x:D},RDs ρ H d v->d[i]? = some x->∃u,v[i]? = some u/\RD ρ H x u
 | _,_,_,_,.nil,e=>by simp at e
 | _,_,0,_,.cons r _,e=>by simp at e;subst e;exact ⟨_,rfl,r⟩
 | _,_,i+1,x,.cons _ q,e=>by
  obtain ⟨u,h1,h2⟩:=RDs.get (i:=i) (x:=x) q (by simpa using e)
  exact ⟨u,by simpa using h1,h2⟩
theorem RDs.set {x:D}{u:V}(r:RD ρ H x u):∀{d:List D}{v:List V}(i:Nat),RDs ρ H d v->RDs ρ H (d.set i x) (v.set i u)
 | _,_,_,.nil=>.nil
 | _,_,0,.cons _ q=>.cons r q
 | _,_,i+1,.cons p q=>.cons p (RDs.set r i q)
theorem RDs.append:∀{d e:List D}{v w:List V},RDs ρ H d v->RDs ρ H e w->RDs ρ H (d++e) (v++w)
 | _,_,_,_,.nil,q=>q
 | _,_,_,_,.cons r p,q=>.cons r (RDs.append p q)
theorem RDs.take:∀{d:List D}{v:List V}(n:Nat),RDs ρ H d v->RDs ρ H (d.take n) (v.take n)
 | _,_,0,_=>.nil
 | _,_,_+1,.nil=>.nil
 | _,_,n+1,.cons r t=>.cons r (RDs.take n t)
theorem RDs.drop:∀{d:List D}{v:List V}(n:Nat),RDs ρ H d v->RDs ρ H (d.drop n) (v.drop n)
 | _,_,0,r=>r
 | _,_,_+1,.nil=>.nil
 | _,_,n+1,.cons _ t=>RDs.drop n t
theorem RDs.reverse:∀{d:List D}{v:List V},RDs ρ H d v->RDs ρ H d.reverse v.reverse
 | _,_,.nil=>.nil
 | _,_,.cons r t=>by rw [List.reverse_cons,List.reverse_cons];exact RDs.append (RDs.reverse t) (.cons r .nil)
theorem RDs.rep {xs:List D}{us:List V}(h:RDs ρ H xs us):∀k:Nat,RDs ρ H (List.replicate k xs).flatten (List.replicate k us).flatten
 | 0=>.nil
 | k+1=>by
  rw [List.replicate_succ,List.replicate_succ,List.flatten_cons,List.flatten_cons]
  exact RDs.append h (RDs.rep h k)
theorem RDs.one {x:D}{vs:List V}(h:RDs ρ H [x] vs):∃v,vs=[v]/\RD ρ H x v:=by
 cases h with
 | cons r q=>cases q;exact ⟨_,rfl,r⟩
theorem RDs.two {x y:D}{vs:List V}(h:RDs ρ H [x,y] vs):∃v u,vs=[v,u]/\RD ρ H x v/\RD ρ H y u:=by
 cases h with
 | cons r q=>obtain ⟨u,rfl,r2⟩:=q.one;exact ⟨_,_,rfl,r,r2⟩
end
noncomputable def Fz (K:QFg) (H:Hp) (a:Addr) (xs:List V):Prop:=(∃o,H a=some (.frz o (.lst xs))) ∨
  ∃(o:Obj) (its:Array Value) (n:Nat),K.lookup a=some o/\o.cls=.type "list"/\o.dict=none/\o.data=.seq its n/\its.size<=sizeLine/\Vals xs its.toList
theorem Fz.sq {K:QFg}{H:Hp}{a:Addr}{xs:List V}(h:Fz K H a xs):SqL K H a xs:=by
 rcases h with ⟨o,h⟩|h
 ·exact .inl (.inr ⟨o,h⟩)
 ·exact .inr h
noncomputable def ObR (K:QFg) (ρ:List Addr) (H:Hp):Ob->Addr->Prop
 | .lst xs,a=>∃vs,H a=some (.lst vs)/\RDs ρ H xs vs
 | .flst xs,a=>∃vs,Fz K H a vs/\RDs ρ H xs vs
 | .iset f n,a=>H a=some (.set f n)
 | .dct kvs,a=>∃vs,H a=some (.dK ((kvs.map (·.1)).zip vs))/\RDs ρ H (kvs.map (·.2)) vs
 | .fdct kvs,a=>∃o vs,H a=some (.frz o (.dK ((kvs.map (·.1)).zip vs)))/\RDs ρ H (kvs.map (·.2)) vs
 | .tdct kvs,a=>∃vs,H a=some (.dT ((kvs.map (·.1)).zip vs))/\RDs ρ H (kvs.map (·.2)) vs
 | .ftdct kvs,a=>∃o vs,H a=some (.frz o (.dT ((kvs.map (·.1)).zip vs)))/\RDs ρ H (kvs.map (·.2)) vs
 | .tset ks,a=>∃xs:List (List Int × Addr),ks=xs.map (·.1)/\H a=some (.ext (TS.TSet a xs))/\∀p∈xs,H p.2=some (.tup (p.1.map V.int))
 | .fnc x,a=>PySem.W.nsIn K mainGlobals x=some (some (.ref a))/\∃o,K.lookup a=some o
 | .exc c,a=>∃C,PySem.W.nsIn K mainGlobals c=some (some (.ref C))/\H a=some (.ext (fun h=>∃o,h.get? a=some o/\o.cls=.ref C))
structure Sim (K:QFg) (ρ:List Addr) (S:Sto) (H:Hp):Prop where
 len:ρ.length=S.length
 nd:∀(i j:Nat) (a:Addr) (o1 o2:Ob),ρ[i]? = some a->ρ[j]? = some a->S[i]? = some o1->S[j]? = some o2->o1.mut=true->o2.mut=true->i=j
 at':∀(n:Nat) (a:Addr) (o:Ob),ρ[n]? = some a->S[n]? = some o->ObR K ρ H o a
section
variable {K:QFg}{ρ ρ':List Addr}{H:Hp}{S:Sto}
theorem zca {p:Addr}{o:HO}(hp:H p=none):Ext ρ H ρ (upd H p o) :=
 ⟨⟨fun _ _ h=>h,fun a vs h=>by rw [zar (zbc h hp)];exact h,fun a o vs h=>by rw [zar (zbc h hp)];exact h⟩,fun a vs h n=>⟨by rw [zar (zbc h hp)];exact h,n⟩⟩
theorem zg5 {p:Addr}{o:HO}{ys:List V}(hp:H p=some (.lst ys)):Ext0 ρ H ρ (upd H p o) :=
 ⟨fun _ _ h=>h,fun a vs h=>by rw [zar (zgh h hp (by intro z;cases z))];exact h,fun a o vs h=>by rw [zar (zgh h hp (by intro z;cases z))];exact h⟩
noncomputable def zg6 (u:HO):Prop:=(∀vs,u≠.tup vs)/\∀o v,u≠.frz o v
theorem zph (ys:List V):zg6 (.lst ys):=⟨fun _ z=>(by cases z),fun _ _ z=>(by cases z)⟩
theorem zey {p:Addr}{o u:HO}(hp:H p=some u) (hu:zg6 u):Ext0 ρ H ρ (upd H p o) :=
 ⟨fun _ _ h=>h,fun a vs h=>by rw [zar (zgh h hp (fun z=>hu.1 vs z.symm))];exact h,fun a o vs h=>by rw [zar (zgh h hp (fun z=>hu.2 o vs z.symm))];exact h⟩
theorem zpi {p:Addr}{o u:HO}{n:Nat}(hn:ρ[n]? = some p) (hp:H p=some u) (hu:zg6 u):Ext ρ H ρ (upd H p o) :=
 ⟨zey hp hu,fun a vs h hm=>⟨by rw [zar (fun z=>hm n (by rw [z];exact hn))];exact h,hm⟩⟩
theorem zjh {p:Addr}{o:HO}{ys:List V}{n:Nat}(hn:ρ[n]? = some p) (hp:H p=some (.lst ys)):Ext ρ H ρ (upd H p o) :=
 ⟨zg5 hp,fun a vs h hm=>⟨by rw [zar (fun z=>hm n (by rw [z];exact hn))];exact h,hm⟩⟩
theorem ObR.laid {o:Ob}{a p:Addr}{u:HO}(h:ObR K ρ H o a) (hp:H p=none):ObR K ρ (upd H p u) o a:=by
 cases o with
 | lst xs =>
  obtain ⟨vs,e,r⟩:=h
  exact ⟨vs,by rw [zar (zbc e hp)];exact e,r.mono (zca hp)⟩
 | flst xs =>
  obtain ⟨vs,e,r⟩:=h
  refine ⟨vs,?_,r.mono (zca hp)⟩
  rcases e with ⟨o,e⟩|e
  ·exact .inl ⟨o,by rw [zar (zbc e hp)];exact e⟩
  ·exact .inr e
 | iset f n =>
  show upd H p u a=some (.set f n)
  have e:H a=some (.set f n):=h
  rw [zar (zbc e hp)];exact e
 | dct kvs =>
  obtain ⟨vs,e,r⟩:=h
  exact ⟨vs,by rw [zar (zbc e hp)];exact e,r.mono (zca hp)⟩
 | fdct kvs =>
  obtain ⟨o,vs,e,r⟩:=h
  exact ⟨o,vs,by rw [zar (zbc e hp)];exact e,r.mono (zca hp)⟩
 | tdct kvs =>
  obtain ⟨vs,e,r⟩:=h
  exact ⟨vs,by rw [zar (zbc e hp)];exact e,r.mono (zca hp)⟩
 | ftdct kvs =>
  obtain ⟨o,vs,e,r⟩:=h
  exact ⟨o,vs,by rw [zar (zbc e hp)];exact e,r.mono (zca hp)⟩
 | tset ks =>
  obtain ⟨xs,e0,e,r⟩:=h
  exact ⟨xs,e0,by rw [zar (zbc e hp)];exact e,fun p hq=>by rw [zar (zbc (r p hq) hp)];exact r p hq⟩
 | fnc x=>exact h
 | exc c =>
  obtain ⟨C,hc,e⟩:=h
  exact ⟨C,hc,by rw [zar (zbc e hp)];exact e⟩
theorem ObR.writtenG {o:Ob}{a p:Addr}{u u0:HO}(h:ObR K ρ H o a) (hp:H p=some u0) (hu:zg6 u0) (hn:o.mut=true->a≠p):ObR K ρ (upd H p u) o a:=by
 cases o with
 | lst xs =>
  obtain ⟨vs,e,r⟩:=h
  exact ⟨vs,by rw [zar (hn rfl)];exact e,r.mono0 (zey hp hu)⟩
 | flst xs =>
  obtain ⟨vs,e,r⟩:=h
  refine ⟨vs,?_,r.mono0 (zey hp hu)⟩
  rcases e with ⟨o,e⟩|e
  ·exact .inl ⟨o,by rw [zar (zgh e hp (fun z=>hu.2 _ _ z.symm))];exact e⟩
  ·exact .inr e
 | iset f n =>
  show upd H p u a=some (.set f n)
  rw [zar (hn rfl)];exact h
 | dct kvs =>
  obtain ⟨vs,e,r⟩:=h
  exact ⟨vs,by rw [zar (hn rfl)];exact e,r.mono0 (zey hp hu)⟩
 | tdct kvs =>
  obtain ⟨vs,e,r⟩:=h
  exact ⟨vs,by rw [zar (hn rfl)];exact e,r.mono0 (zey hp hu)⟩
 | fdct kvs =>
  obtain ⟨o,vs,e,r⟩:=h
  exact ⟨o,vs,by rw [zar (hn rfl)];exact e,r.mono0 (zey hp hu)⟩
 | ftdct kvs =>
  obtain ⟨o,vs,e,r⟩:=h
  exact ⟨o,vs,by rw [zar (hn rfl)];exact e,r.mono0 (zey hp hu)⟩
 | tset ks =>
  obtain ⟨xs,e0,e,r⟩:=h
  exact ⟨xs,e0,by rw [zar (hn rfl)];exact e,fun p hq=>(zey (ρ:=ρ) hp hu).tup _ _ (r p hq)⟩
 | fnc x=>exact h
 | exc c =>
  obtain ⟨C,hc,e⟩:=h
  exact ⟨C,hc,by rw [zar (hn rfl)];exact e⟩
theorem ObR.written {o:Ob}{a p:Addr}{u:HO}{ys:List V}(h:ObR K ρ H o a) (hp:H p=some (.lst ys)) (hn:o.mut=true->a≠p):ObR K ρ (upd H p u) o a:=h.writtenG hp (zph ys) hn
theorem ObR.more {o:Ob}{a:Addr}(h:ObR K ρ H o a) (e:Ext0 ρ H ρ' H):ObR K ρ' H o a:=by
 cases o with
 | lst xs=>obtain ⟨vs,e1,r⟩:=h;exact ⟨vs,e1,r.mono0 e⟩
 | flst xs=>obtain ⟨vs,e1,r⟩:=h;exact ⟨vs,e1,r.mono0 e⟩
 | iset f n=>exact h
 | dct kvs=>obtain ⟨vs,e1,r⟩:=h;exact ⟨vs,e1,r.mono0 e⟩
 | tdct kvs=>obtain ⟨vs,e1,r⟩:=h;exact ⟨vs,e1,r.mono0 e⟩
 | fdct kvs=>obtain ⟨o,vs,e1,r⟩:=h;exact ⟨o,vs,e1,r.mono0 e⟩
 | ftdct kvs=>obtain ⟨o,vs,e1,r⟩:=h;exact ⟨o,vs,e1,r.mono0 e⟩
 | tset ks=>exact h
 | fnc x=>exact h
 | exc c=>exact h
theorem Sim.laid (s:Sim K ρ S H) {p:Addr}{u:HO}(hp:H p=none):Sim K ρ S (upd H p u) :=
 ⟨s.len,s.nd,fun n a o h1 h2=>(s.at' n a o h1 h2).laid hp⟩
theorem Sim.lst {n:Nat}{xs:List D}(s:Sim K ρ S H) (h:S[n]? = some (.lst xs)):∃a vs,ρ[n]? = some a/\H a=some (.lst vs)/\RDs ρ H xs vs:=by
 have hl:n<ρ.length:=by rw [s.len];exact (qme h).1
 obtain ⟨vs,e,r⟩:=s.at' n _ _ (qge hl) h
 exact ⟨_,vs,qge hl,e,r⟩
noncomputable def lstOf (S:Sto) (n:Nat):Option (List D):=match S[n]? with
 | some (.lst xs)=>some xs
 | some (.flst xs)=>some xs
 | _=>none
theorem Sim.lstOf {n:Nat}{xs:List D}(s:Sim K ρ S H) (h:L3.lstOf S n=some xs):∃a vs,ρ[n]? = some a/\SqL K H a vs/\RDs ρ H xs vs:=by
 unfold L3.lstOf at h
 cases e:S[n]? with
 | none=>rw [e] at h;cases h
 | some o =>
  have hl:n<ρ.length:=by rw [s.len];exact (qme e).1
  have q:=s.at' n _ _ (qge hl) e
  rw [e] at h
  cases o with
  | lst ys =>
   cases h
   obtain ⟨vs,e1,r⟩:=q
   exact ⟨_,vs,qge hl,.inl (.inl e1),r⟩
  | flst ys =>
   cases h
   obtain ⟨vs,e1,r⟩:=q
   exact ⟨_,vs,qge hl,e1.sq,r⟩
  | iset f n=>cases h
  | dct kvs=>cases h
  | fdct kvs=>cases h
  | ftdct kvs=>cases h
  | tset ks=>cases h
  | fnc x=>cases h
  | tdct kvs=>cases h
  | exc c=>cases h
theorem Sim.setG {n:Nat}{a:Addr}{o0 o1:Ob}{u0 u1:HO}(s:Sim K ρ S H) (ha:ρ[n]? = some a) (hS:S[n]? = some o0) (hm0:o0.mut=true) (hH:H a=some u0) (hu:zg6 u0) (r:ObR K ρ (upd H a u1) o1 a):Sim K ρ (S.set n o1) (upd H a u1):=by
 have hl:n<S.length:=(qme hS).1
 have key:∀(m:Nat) (w:Ob),w.mut=true->(S.set n o1)[m]? = some w->∃w',S[m]? = some w'/\w'.mut=true:=fun m w hw h=>by
  by_cases hmn:n=m
  ·subst hmn;exact ⟨_,hS,hm0⟩
  ·rw [List.getElem?_set_ne hmn] at h;exact ⟨_,h,hw⟩
 refine ⟨by rw [List.length_set];exact s.len,fun i j b x1 x2 h1 h2 h3 h4 m1 m2=>?_,fun m b o h1 h2=>?_⟩
 ·obtain ⟨_,h3,q3⟩:=key i x1 m1 h3
  obtain ⟨_,h4,q4⟩:=key j x2 m2 h4
  exact s.nd i j b _ _ h1 h2 h3 h4 q3 q4
 by_cases hmn:n=m
 ·subst hmn
  rw [ha] at h1;cases h1
  rw [List.getElem?_set_self hl] at h2
  cases h2
  exact r
 ·rw [List.getElem?_set_ne hmn] at h2
  exact (s.at' m b o h1 h2).writtenG hH hu (fun e z=>hmn (s.nd n m a _ _ ha (by rw [h1,z]) hS h2 hm0 e))
theorem Sim.set {n:Nat}{a:Addr}{ys:List V}{xs zs:List D}{vs:List V}(s:Sim K ρ S H) (ha:ρ[n]? = some a) (hS:S[n]? = some (.lst zs)) (hH:H a=some (.lst ys)) (r:RDs ρ H xs vs):Sim K ρ (S.set n (.lst xs)) (upd H a (.lst vs)) :=
 s.setG ha hS rfl hH (zph ys) ⟨vs,zcg,r.mono0 (zg5 hH)⟩
theorem ext0_push {a:Addr}:Ext0 ρ H (ρ++[a]) H :=
 ⟨fun n b h=>by rw [List.getElem?_append_left (qme h).1];exact h,fun _ _ h=>h,fun _ _ _ h=>h⟩
theorem zbd {α:Type}{l:List α}{a b:α}{n:Nat}(h:(l++[a])[n]? = some b):l[n]? = some b∨(n=l.length/\b=a):=by
 by_cases hl:n<l.length
 ·rw [List.getElem?_append_left hl] at h;exact .inl h
 ·rw [List.getElem?_append_right (by omega)] at h
  have:n-l.length=0:=by
   have:=(qme h).1
   simp at this;omega
  rw [this] at h;simp at h
  exact .inr ⟨by omega,h.symm⟩
theorem zpj {a:Addr}{vs:List V}(ha:H a=none):Ext ρ H (ρ++[a]) (upd H a (.lst vs)) :=
 ⟨⟨ext0_push.pre (H:=H),fun b us h=>by rw [zar (zbc h ha)];exact h,fun b o us h=>by rw [zar (zbc h ha)];exact h⟩,fun b us h n=>⟨by rw [zar (zbc h ha)];exact h,fun i hi=>by
  rcases zbd hi with hi|⟨_,e⟩
  ·exact n i hi
  ·rw [e,ha] at h;cases h⟩⟩
theorem zyd {a:Addr}{u:HO}(ha:H a=none):Ext ρ H (ρ++[a]) (upd H a u) :=
 ⟨⟨ext0_push.pre (H:=H),fun b us h=>by rw [zar (zbc h ha)];exact h,fun b o us h=>by rw [zar (zbc h ha)];exact h⟩,fun b us h n=>⟨by rw [zar (zbc h ha)];exact h,fun i hi=>by
  rcases zbd hi with hi|⟨_,e⟩
  ·exact n i hi
  ·rw [e,ha] at h;cases h⟩⟩
theorem Sim.pushG {a:Addr}{o1:Ob}{u:HO}(s:Sim K ρ S H) (ha:H a=none) (r:ObR K (ρ++[a]) (upd H a u) o1 a):Sim K (ρ++[a]) (S++[o1]) (upd H a u):=by
 have no:∀(n:Nat) (o:Ob),o.mut=true->ρ[n]? = some a->S[n]? = some o->False:=fun n o hm h1 h2=>by
  have q:=s.at' n a _ h1 h2
  cases o with
  | lst xs=>obtain ⟨vs,e,_⟩:=q;rw [ha] at e;cases e
  | flst xs=>cases hm
  | iset f n=>have q:H a=_:=q;rw [ha] at q;cases q
  | dct kvs=>obtain ⟨vs,e,_⟩:=q;rw [ha] at e;cases e
  | tdct kvs=>obtain ⟨vs,e,_⟩:=q;rw [ha] at e;cases e
  | fdct kvs=>obtain ⟨o,vs,e,_⟩:=q;rw [ha] at e;cases e
  | ftdct kvs=>obtain ⟨o,vs,e,_⟩:=q;rw [ha] at e;cases e
  | tset ks=>obtain ⟨xs,_,e,_⟩:=q;rw [ha] at e;cases e
  | fnc x=>cases hm
  | exc c=>obtain ⟨C,_,e⟩:=q;rw [ha] at e;cases e
 refine ⟨by simp [s.len],fun i j b x1 x2 h1 h2 h3 h4 m1 m2=>?_,fun n b o h1 h2=>?_⟩
 ·rcases zbd h3 with h3|⟨e3,_⟩ <;> rcases zbd h4 with h4|⟨e4,_⟩
  ·have l1:=(qme h3).1
   have l2:=(qme h4).1
   rcases zbd h1 with h1|⟨e1,f1⟩ <;> rcases zbd h2 with h2|⟨e2,f2⟩
   ·exact s.nd i j b _ _ h1 h2 h3 h4 m1 m2
   ·have:=s.len;omega
   ·have:=s.len;omega
   ·have:=s.len;omega
  ·have l1:=(qme h3).1
   rcases zbd h2 with h2|⟨e2,f2⟩
   ·have:=(qme h2).1;have:=s.len;omega
   ·subst f2
    rcases zbd h1 with h1|⟨e1,_⟩
    ·exact (no i _ m1 h1 h3).elim
    ·have:=s.len;omega
  ·have l1:=(qme h4).1
   rcases zbd h1 with h1|⟨e2,f2⟩
   ·have:=(qme h1).1;have:=s.len;omega
   ·subst f2
    rcases zbd h2 with h2|⟨e1,_⟩
    ·exact (no j _ m2 h2 h4).elim
    ·have:=s.len;omega
  ·omega
 ·rcases zbd h2 with h2|⟨e2,f2⟩
  ·rcases zbd h1 with h1|⟨e1,f1⟩
   ·exact ((s.at' n b o h1 h2).laid ha).more ext0_push
   ·have:=(qme h2).1;have:=s.len;omega
  ·rcases zbd h1 with h1|⟨e1,f1⟩
   ·have:=(qme h1).1;have:=s.len;omega
   ·subst f1 f2
    exact r
theorem Sim.push {a:Addr}{xs:List D}{vs:List V}(s:Sim K ρ S H) (ha:H a=none) (r:RDs ρ H xs vs):Sim K (ρ++[a]) (S++[.lst xs]) (upd H a (.lst vs)) :=
 s.pushG ha ⟨vs,zcg,r.mono (zpj ha)⟩
theorem zfx {α:Type}(l:List α) (a:α):(l++[a])[l.length]? = some a:=by
 rw [List.getElem?_append_right (qlr _)];simp
end
structure RO (ρ:List Addr) (H:Hp) (l:Lo) (σ:St):Prop where
 len:l.length=σ.length
 get:∀(i:Nat) (d:D),l[i]? = some (some d)->∃v,σ[i]? = some (some v)/\RD ρ H d v
theorem RO.mono {ρ ρ':List Addr}{H H':Hp}{l:Lo}{σ:St}(r:RO ρ H l σ) (e:Ext ρ H ρ' H'):RO ρ' H' l σ :=
 ⟨r.len,fun i d h=>let ⟨v,h1,h2⟩:=r.get i d h;⟨v,h1,h2.mono e⟩⟩
theorem RO.set {ρ:List Addr}{H:Hp}{l:Lo}{σ:St}{d:D}{v:V}(r:RO ρ H l σ) (i:Nat) (h:RD ρ H d v):RO ρ H (l.set i (some d)) (σ.set i (some v)):=by
 refine ⟨by simp [r.len],fun j x hj=>?_⟩
 by_cases hij:i=j
 ·subst hij
  have hl:i<l.length:=by have:=(qme hj).1;simpa using this
  rw [List.getElem?_set_self hl] at hj
  cases hj
  exact ⟨v,List.getElem?_set_self (by rw [←r.len];exact hl),h⟩
 ·rw [List.getElem?_set_ne hij] at hj
  rw [List.getElem?_set_ne hij]
  exact r.get j x hj
noncomputable abbrev EM:=Lo->Sto->Option (D × Sto)
noncomputable abbrev TM:=Lo->Sto->Option (Bool × Sto)
noncomputable abbrev AM:=Lo->Sto->Option (List D × Sto)
noncomputable abbrev FM:=List D->Sto->Option (D × Sto)
inductive Fl where
 | nx|bk|ct|rt (d:D)
noncomputable abbrev SM:=Lo->Sto->Option (Fl × Lo × Sto)
noncomputable abbrev GM:=D->Lo->Sto->Option (Lo × Sto)
noncomputable abbrev GsM:=List D->Lo->Sto->Option (Lo × Sto)
noncomputable def Pv (K:QFg) (ρ:List Addr) (H:Hp) (v:D) (S:Sto) (Q:VK):Prop:=∀ρ' H' v',Ext ρ H ρ' H'->Sim K ρ' S H'->RD ρ' H' v v'->Q v' H'
theorem Pv.ext {K:QFg}{ρ ρ1:List Addr}{H H1:Hp}{v:D}{S:Sto}{Q:VK}(p:Pv K ρ H v S Q) (e:Ext ρ H ρ1 H1):Pv K ρ1 H1 v S Q:=fun ρ' H' v' e' s r=>p ρ' H' v' (e.trans e') s r
inductive te (K:QFg) (m:EM) (σ:St) (H:Hp) (Q:VK):Prop
 | mk (ρ:_) (l:_) (S:_) (v:_) (S':_) (_:Sim K ρ S H) (_:RO ρ H l σ) (_:m l S=some (v,S')) (_:Pv K ρ H v S' Q)
inductive tt (K:QFg) (m:TM) (σ:St) (H:Hp) (Q:Bool->Hp->Prop):Prop
 | mk (ρ:_) (l:_) (S:_) (v:_) (S':_) (_:Sim K ρ S H) (_:RO ρ H l σ) (_:m l S=some (v,S')) (_:∀ρ' H',Ext ρ H ρ' H'->Sim K ρ' S' H'->Q v H')
inductive ta (K:QFg) (m:AM) (σ:St) (H:Hp) (Q:List V->Hp->Prop):Prop
 | mk (ρ:_) (l:_) (S:_) (v:_) (S':_) (_:Sim K ρ S H) (_:RO ρ H l σ) (_:m l S=some (v,S')) (_:∀ρ' H' vs,Ext ρ H ρ' H'->Sim K ρ' S' H'->RDs ρ' H' v vs->Q vs H')
noncomputable def zif (ρ:List Addr) (H:Hp) (E:Ends) (σ:St):Fl->Prop
 | .nx=>E.nx σ H
 | .bk=>E.bk σ H
 | .ct=>E.ct σ H
 | .rt d=>∀v,RD ρ H d v->E.rt v H
inductive ts (K:QFg) (m:SM) (E:Ends) (σ:St) (H:Hp):Prop
 | mk (ρ:_) (l:_) (S:_) (f:_) (l':_) (S':_) (_:Sim K ρ S H) (_:RO ρ H l σ) (_:m l S=some (f,l',S')) (_:∀ρ' H' σ',Ext ρ H ρ' H'->Sim K ρ' S' H'->RO ρ' H' l' σ'->zif ρ' H' E σ' f)
inductive tg (K:QFg) (g:GM) (v:V) (σ:St) (H:Hp) (Q:St->Hp->Prop):Prop
 | mk (ρ:_) (l:_) (S:_) (d:_) (l':_) (S':_) (_:Sim K ρ S H) (_:RO ρ H l σ) (_:RD ρ H d v) (_:g d l S=some (l',S')) (_:∀ρ' H' σ',Ext ρ H ρ' H'->Sim K ρ' S' H'->RO ρ' H' l' σ'->Q σ' H')
inductive tgs (K:QFg) (g:GsM) (vs:List V) (σ:St) (H:Hp) (Q:St->Hp->Prop):Prop
 | mk (ρ:_) (l:_) (S:_) (ds:_) (l':_) (S':_) (_:Sim K ρ S H) (_:RO ρ H l σ) (_:RDs ρ H ds vs) (_:g ds l S=some (l',S')) (_:∀ρ' H' σ',Ext ρ H ρ' H'->Sim K ρ' S' H'->RO ρ' H' l' σ'->Q σ' H')
noncomputable def PE3 (X:Cx) (e:Expr) (m:EM):Prop:=PE X e (te X.K m)
noncomputable def PT3 (X:Cx) (e:Expr) (m:TM):Prop:=PT X e (tt X.K m)
noncomputable def PW3 (X:Cx) (e:Expr) (m:TM):Prop:=PW X e (tt X.K m)
noncomputable def PA3 (X:Cx) (es:List Expr) (m:AM):Prop:=PA X es (ta X.K m)
noncomputable def PS3 (X:Cx) (st:Stmt) (m:SM):Prop:=PS X st (ts X.K m)
noncomputable def zc3 (X:Cx) (st:List Stmt) (m:SM):Prop:=PSs X st (ts X.K m)
noncomputable def PG3 (X:Cx) (tg':Expr) (m:GM):Prop:=PG X tg' (tg X.K m)
noncomputable def zji (X:Cx) (ts':List Expr) (m:GsM):Prop:=PGs X ts' (tgs X.K m)
theorem PE.imp {X:Cx}{e:Expr}{t u:TE}(h:PE X e t) (i:∀σ H Q,u σ H Q->t σ H Q):PE X e u:=fun pins s σ H Q I q=>h pins s σ H Q I (i _ _ _ q)
theorem PT.imp {X:Cx}{e:Expr}{t u:TT}(h:PT X e t) (i:∀σ H Q,u σ H Q->t σ H Q):PT X e u:=fun pins s σ H Q I q=>h pins s σ H Q I (i _ _ _ q)
theorem PW.imp {X:Cx}{e:Expr}{t u:TT}(h:PW X e t) (i:∀σ H Q,u σ H Q->t σ H Q):PW X e u:=fun wh pins s σ H Q I q=>h wh pins s σ H Q I (i _ _ _ q)
theorem PA.imp {X:Cx}{e:List Expr}{t u:TA}(h:PA X e t) (i:∀σ H Q,u σ H Q->t σ H Q):PA X e u:=fun pos pins s σ H Q I q=>h pos pins s σ H Q I (i _ _ _ q)
theorem PS.imp {X:Cx}{e:Stmt}{t u:TS}(h:PS X e t) (i:∀E σ H,u E σ H->t E σ H):PS X e u:=fun pins s σ H Q I q=>h pins s σ H Q I (i _ _ _ q)
theorem PSs.imp {X:Cx}{e:List Stmt}{t u:TS}(h:PSs X e t) (i:∀E σ H,u E σ H->t E σ H):PSs X e u:=fun pins s σ H Q I q=>h pins s σ H Q I (i _ _ _ q)
theorem PG.imp {X:Cx}{e:Expr}{t u:TG}(h:PG X e t) (i:∀v σ H Q,u v σ H Q->t v σ H Q):PG X e u:=fun pins s σ H v w Q I r q=>h pins s σ H v w Q I r (i _ _ _ _ q)
theorem PGs.imp {X:Cx}{e:List Expr}{t u:TGs}(h:PGs X e t) (i:∀v σ H Q,u v σ H Q->t v σ H Q):PGs X e u:=fun pins s σ H v w Q I r q=>h pins s σ H v w Q I r (i _ _ _ _ q)
inductive Bnd {α β:Type} (o:Option α) (f:α->Option β) (b:β):Prop
 | mk (a:α) (_:o=some a) (_:f a=some b)
theorem bnd {α β:Type}{o:Option α}{f:α->Option β}{b:β}(h:o.bind f=some b):Bnd o f b:=by
 obtain ⟨a,h1,h2⟩:=Option.bind_eq_some_iff.mp h
 exact ⟨a,h1,h2⟩
noncomputable def zaa (i:Nat):EM:=fun l S=>match l[i]? with
 | some (some d)=>some (d,S)
 | _=>none
noncomputable def eC (d:D):EM:=fun _ S=>some (d,S)
noncomputable def eOp (f:D->D->Sto->Option (D × Sto)) (a b:EM):EM:=fun l S=>(a l S).bind fun p=>(b l p.2).bind fun q=>f p.1 q.1 q.2
noncomputable def eUn (f:D->Sto->Option (D × Sto)) (a:EM):EM:=fun l S=>(a l S).bind fun p=>f p.1 p.2
noncomputable def zae:AM:=fun _ S=>some ([],S)
noncomputable def zac (a:EM) (r:AM):AM:=fun l S=>(a l S).bind fun p=>(r l p.2).bind fun q=>some (p.1 :: q.1,q.2)
noncomputable def zaf (f:FM) (as:AM):EM:=fun l S=>(as l S).bind fun p=>f p.1 p.2
noncomputable def tE (a:EM):TM:=fun l S=>(a l S).bind fun p=>match p.1 with
 | .bl b=>some (b,p.2)
 | _=>none
noncomputable def zcp (a b:TM):TM:=fun l S=>(a l S).bind fun p=>if p.1=true then b l p.2 else some (false,p.2)
noncomputable def zdn (a b:TM):TM:=fun l S=>(a l S).bind fun p=>if p.1=true then some (true,p.2) else b l p.2
noncomputable def zg7 (a:TM):TM:=fun l S=>(a l S).bind fun p=>some (!p.1,p.2)
noncomputable def zfy (a b:EM):EM:=fun l S=>(a l S).bind fun p=>match p.1 with
 | .bl true=>b l p.2
 | .bl false=>some (.bl false,p.2)
 | _=>none
noncomputable def zg8 (a b:EM):EM:=fun l S=>(a l S).bind fun p=>match p.1 with
 | .bl true=>some (.bl true,p.2)
 | .bl false=>b l p.2
 | _=>none
noncomputable def zig (c:TM) (a b:EM):EM:=fun l S=>(c l S).bind fun p=>if p.1=true then a l p.2 else b l p.2
noncomputable def Op3 (K:QFg) (f:D->D->Sto->Option (D × Sto)) (r:R2):Prop :=
 ∀ρ S H x y x' y' v S' Q,Sim K ρ S H->RD ρ H x x'->RD ρ H y y'->f x y S=some (v,S')->Pv K ρ H v S' Q->r x' y' H Q
noncomputable def Fn3 (K:QFg) (f:FM) (r:List V->Hp->VK->Prop):Prop :=
 ∀ρ S H xs vs v S' Q,Sim K ρ S H->RDs ρ H xs vs->f xs S=some (v,S')->Pv K ρ H v S' Q->r vs H Q
noncomputable def Mt3 (K:QFg) (f:D->List D->Sto->Option (D × Sto)) (r:V->List V->Hp->VK->Prop):Prop :=
 ∀ρ S H x x' xs vs v S' Q,Sim K ρ S H->RD ρ H x x'->RDs ρ H xs vs->f x xs S=some (v,S')->Pv K ρ H v S' Q->r x' vs H Q
theorem zjj {K:QFg}{f:D->D->Sto->Option (D × Sto)}{r:R2}(h:Op3 K f r) {a b:EM}(σ:St) (H:Hp) (Q:VK) (q:te K (eOp f a b) σ H Q):tOp r (te K a) (te K b) σ H Q:=by
 obtain ⟨ρ,l,S,v,S',sim,ro,hm,p⟩:=q
 obtain ⟨⟨x,S1⟩,h1,hm⟩:=bnd hm
 obtain ⟨⟨y,S2⟩,h2,hm⟩:=bnd hm
 exact ⟨ρ,l,S,x,S1,sim,ro,h1,fun ρ1 H1 x' e1 s1 r1=>⟨ρ1,l,S1,y,S2,s1,ro.mono e1,h2,fun ρ2 H2 y' e2 s2 r2=>h ρ2 S2 H2 x y x' y' v S' Q s2 (r1.mono e2) r2 hm (p.ext (e1.trans e2))⟩⟩
section
variable {X:Cx}{a b c:Expr}{es:List Expr}{ma mb:EM}{mA:AM}{pos:Pos}
theorem zab (i:Nat) {x:Str}(hN:X.N[i]? = some x:=by rfl) (hv:Vis X.env.scope x:=by first|exact Or.inl rfl|exact Or.inr (Or.inl rfl)|exact Or.inr (Or.inr rfl)) (hd:(x == ("__debug__":Str))=false:=by decide)
  (hcd:(x == ("__classdict__":Str))=false:=by decide):PE3 X (.Name x pos) (zaa i) :=
 PE.imp (zu2 hN hv hd hcd) fun σ H Q hx1_=>by
  obtain ⟨ρ,l,S,v,S',sim,ro,hm,p⟩:=hx1_
  unfold zaa at hm
  split at hm
  ·rename_i d e
   cases hm
   obtain ⟨w,h1,h2⟩:=ro.get i _ e
   exact ⟨w,h1,p ρ H w (Ext.refl ..) sim h2⟩
  ·cases hm
theorem zjk {K:QFg}{d:D}{v:V}(h:∀ρ H,RD ρ H d v) (σ:St) (H:Hp) (Q:VK) (q:te K (eC d) σ H Q):tC v σ H Q:=by
 obtain ⟨ρ,l,S,w,S',sim,ro,hm,p⟩:=q
 cases hm
 exact p ρ H v (Ext.refl ..) sim (h ρ H)
theorem zag {i j}:PE3 X (.Constant (.int i) j pos) (eC (.int i)):=PE.imp zu3 (zjk fun _ _=>.int i)
theorem zc4 {i j}:PE3 X (.Constant (.bool i) j pos) (eC (.bl i)):=PE.imp zu4 (zjk fun _ _=>.bl i)
theorem zbj {j}:PE3 X (.Constant .none j pos) (eC .non):=PE.imp zu5 (zjk fun _ _=>.non)
theorem zfz {i j}:PE3 X (.Constant (.str i) j pos) (eC (.str i)):=PE.imp zu6 (zjk fun _ _=>.str i)
theorem zg9 {op:Operator}{f:D->D->Sto->Option (D × Sto)}{r:R2}(ho:OpR X (binaryOp op) r) (h3:Op3 X.K f r) (ha:PE3 X a ma) (hb:PE3 X b mb):PE3 X (.BinOp a op b pos) (eOp f ma mb):=PE.imp (zwq ho ha hb) (zjj h3)
theorem zgj {op:CmpOp}{f:D->D->Sto->Option (D × Sto)}{r:R2}(ho:OpR X (compareOp op) r) (h3:Op3 X.K f r) (ha:PE3 X a ma) (hb:PE3 X b mb) (hm:behindInMarks op b=false):PE3 X (.Compare a [op] [b] pos) (eOp f ma mb):=PE.imp (zwz ho ha hb hm) (zjj h3)
theorem zpk {K:QFg}{m:EM}(σ:St) (H:Hp) (Q:Bool->Hp->Prop) (q:tt K (tE m) σ H Q):te K m σ H fun x H'=>∃k,x=.bl k/\Q k H':=by
 obtain ⟨ρ,l,S,v,S',sim,ro,hm,p⟩:=q
 obtain ⟨⟨x,S1⟩,h1,hm⟩:=bnd hm
 refine ⟨ρ,l,S,x,S1,sim,ro,h1,fun ρ' H' v' e s r=>?_⟩
 cases r with
 | bl k=>cases hm;exact ⟨_,rfl,p ρ' H' e s⟩
 | _=>cases hm
theorem zdo {op:CmpOp}{f:D->D->Sto->Option (D × Sto)}{r:R2}(ho:OpR X (compareOp op) r) (h3:Op3 X.K f r) (ha:PE3 X a ma) (hb:PE3 X b mb) (hm:behindInMarks op b=false):PT3 X (.Compare a [op] [b] pos) (tE (eOp f ma mb)) :=
 PT.imp (zw1 ho ha hb hm) fun σ H Q q=>zjj h3 σ H _ (zpk σ H Q q)
theorem zf0 {m:EM}(h:PE3 X a m) (he:∀whole,isTrue a X.env whole=(do let v ←whole;standAt a.pos;holding [v] (truthy v)):=by intro _;rfl):PT3 X a (tE m) :=
 PT.imp (zu7 h he) fun σ H Q q=>zpk σ H Q q
variable {t u:TM}{rest:List Expr}
theorem zye {K:QFg}(σ:St) (H:Hp) (Q:Bool->Hp->Prop) (q:tt K (zcp t u) σ H Q):L2.tAnd (tt K t) (tt K u) σ H Q:=by
 obtain ⟨ρ,l,S,v,S',sim,ro,hm,p⟩:=q
 obtain ⟨⟨x,S1⟩,h1,hm⟩:=bnd hm
 refine ⟨ρ,l,S,x,S1,sim,ro,h1,fun ρ1 H1 e1 s1=>?_⟩
 cases x with
 | true=>exact zex ⟨ρ1,l,S1,v,S',s1,ro.mono e1,hm,fun ρ2 H2 e2 s2=>p ρ2 H2 (e1.trans e2) s2⟩
 | false=>cases hm;exact zew (p ρ1 H1 e1 s1)
theorem zyf {K:QFg}(σ:St) (H:Hp) (Q:Bool->Hp->Prop) (q:tt K (zdn t u) σ H Q):L2.tOr (tt K t) (tt K u) σ H Q:=by
 obtain ⟨ρ,l,S,v,S',sim,ro,hm,p⟩:=q
 obtain ⟨⟨x,S1⟩,h1,hm⟩:=bnd hm
 refine ⟨ρ,l,S,x,S1,sim,ro,h1,fun ρ1 H1 e1 s1=>?_⟩
 cases x with
 | false=>exact zew ⟨ρ1,l,S1,v,S',s1,ro.mono e1,hm,fun ρ2 H2 e2 s2=>p ρ2 H2 (e1.trans e2) s2⟩
 | true=>cases hm;exact zex (p ρ1 H1 e1 s1)
theorem zf1 (ha:PT3 X a t):PW3 X (.BoolOp .And [a] pos) t:=zu9 ha
theorem zjl (ha:PT3 X a t):PW3 X (.BoolOp .Or [a] pos) t:=zva ha
theorem zeb (ha:PT3 X a t) (hb:PW3 X (.BoolOp .And (b :: rest) pos) u):PW3 X (.BoolOp .And (a :: b :: rest) pos) (zcp t u):=PW.imp (zvb ha hb) zye
theorem zha (ha:PT3 X a t) (hb:PW3 X (.BoolOp .Or (b :: rest) pos) u):PW3 X (.BoolOp .Or (a :: b :: rest) pos) (zdn t u):=PW.imp (zvc ha hb) zyf
theorem zdg (h:PW3 X a t):PT3 X a t:=PW.pt h
theorem zle (ha:PT3 X a t):PT3 X (.UnaryOp .Not a pos) (zg7 t):=PT.imp (zvd ha) fun σ H Q hx2_=>by
 obtain ⟨ρ,l,S,v,S',sim,ro,hm,p⟩:=hx2_
 obtain ⟨⟨x,S1⟩,h1,hm⟩:=bnd hm
 cases hm
 exact ⟨ρ,l,S,x,S1,sim,ro,h1,p⟩
theorem zhb {op}(h:PE3 X a ma):PE3 X (.BoolOp op [a] pos) ma:=zvg h
theorem zjm (ha:PE3 X a ma) (hb:PE3 X (.BoolOp .And (b :: rest) pos) mb):PE3 X (.BoolOp .And (a :: b :: rest) pos) (zfy ma mb):=PE.imp (zvh ha hb) fun σ H Q hx3_=>by
 obtain ⟨ρ,l,S,v,S',sim,ro,hm,p⟩:=hx3_
 obtain ⟨⟨x,S1⟩,h1,hm⟩:=bnd hm
 refine ⟨ρ,l,S,x,S1,sim,ro,h1,fun ρ1 H1 x' e1 s1 r1=>?_⟩
 cases r1 with
 | bl k =>
  refine ⟨k,rfl,?_⟩
  cases k with
  | true=>exact zex ⟨ρ1,l,S1,v,S',s1,ro.mono e1,hm,p.ext e1⟩
  | false=>cases hm;exact zew (p ρ1 H1 _ e1 s1 (.bl false))
 | _=>cases hm
theorem zpl (ha:PE3 X a ma) (hb:PE3 X (.BoolOp .Or (b :: rest) pos) mb):PE3 X (.BoolOp .Or (a :: b :: rest) pos) (zg8 ma mb):=PE.imp (zvi ha hb) fun σ H Q hx4_=>by
 obtain ⟨ρ,l,S,v,S',sim,ro,hm,p⟩:=hx4_
 obtain ⟨⟨x,S1⟩,h1,hm⟩:=bnd hm
 refine ⟨ρ,l,S,x,S1,sim,ro,h1,fun ρ1 H1 x' e1 s1 r1=>?_⟩
 cases r1 with
 | bl k =>
  refine ⟨k,rfl,?_⟩
  cases k with
  | false=>exact zew ⟨ρ1,l,S1,v,S',s1,ro.mono e1,hm,p.ext e1⟩
  | true=>cases hm;exact zex (p ρ1 H1 _ e1 s1 (.bl true))
 | _=>cases hm
theorem zyg {mc:TM}(hc:PT3 X c mc) (ha:PE3 X a ma) (hb:PE3 X b mb):PE3 X (.IfExp c a b pos) (zig mc ma mb):=PE.imp (zvj hc ha hb) fun σ H Q hx6_=>by
 obtain ⟨ρ,l,S,v,S',sim,ro,hm,p⟩:=hx6_
 obtain ⟨⟨x,S1⟩,h1,hm⟩:=bnd hm
 refine ⟨ρ,l,S,x,S1,sim,ro,h1,fun ρ1 H1 e1 s1=>?_⟩
 cases x with
 | true=>exact zex ⟨ρ1,l,S1,v,S',s1,ro.mono e1,hm,p.ext e1⟩
 | false=>exact zew ⟨ρ1,l,S1,v,S',s1,ro.mono e1,hm,p.ext e1⟩
theorem zah:PA3 X [] zae:=PA.imp zon fun σ H Q hx7_=>by
 obtain ⟨ρ,l,S,v,S',sim,ro,hm,p⟩:=hx7_
 cases hm
 exact p ρ H [] (Ext.refl ..) sim .nil
theorem zad (ha:PE3 X a ma) (hr:PA3 X es mA) (hs:starEach (a :: es) X.env=(false,eval a X.env) :: starEach es X.env:=by rfl):PA3 X (a :: es) (zac ma mA):=PA.imp (zoo ha hr hs) fun σ H Q hx8_=>by
 obtain ⟨ρ,l,S,v,S',sim,ro,hm,p⟩:=hx8_
 obtain ⟨⟨x,S1⟩,h1,hm⟩:=bnd hm
 obtain ⟨⟨y,S2⟩,h2,hm⟩:=bnd hm
 cases hm
 exact ⟨ρ,l,S,x,S1,sim,ro,h1,fun ρ1 H1 x' e1 s1 r1=>⟨ρ1,l,S1,y,_,s1,ro.mono e1,h2,fun ρ2 H2 vs e2 s2 r2=>p ρ2 H2 _ (e1.trans e2) s2 (.cons (r1.mono e2) r2)⟩⟩
noncomputable def zaw:FM:=fun xs S=>if xs.length<=sizeLine then some (.tup xs,S) else none
noncomputable def zc5:FM:=fun xs S=>if xs.length<=sizeLine then some (.ref S.length,S++[.lst xs]) else none
theorem zbk {α:Type}{c:Prop} [Decidable c] {a b:α}(h:(if c then some a else none)=some b):c/\a=b:=by
 by_cases hc:c
 ·rw [if_pos hc] at h;exact ⟨hc,qoi h⟩
 ·rw [if_neg hc] at h;cases h
theorem zih {K:QFg}{ρ:List Addr}{S:Sto}{H:Hp}{xs:List D}{vs:List V}{Q:VK}(sim:Sim K ρ S H) (r:RDs ρ H xs vs) (p:Pv K ρ H (.tup xs) S Q):∀a,H a=none->Q (.ref a) (upd H a (.tup vs)):=fun a ha =>
 p ρ _ _ (zca ha) (sim.laid ha) (.tup zcg (r.mono (zca ha)))
theorem zii {K:QFg}{ρ:List Addr}{S:Sto}{H:Hp}{xs:List D}{vs:List V}{Q:VK}(sim:Sim K ρ S H) (r:RDs ρ H xs vs) (p:Pv K ρ H (.ref S.length) (S++[.lst xs]) Q):∀a,H a=none->Q (.ref a) (upd H a (.lst vs)):=fun a ha =>
 p (ρ++[a]) _ _ (zpj ha) (sim.push ha r) (.ref (by rw [←sim.len];exact zfx ρ a))
theorem za1 {x1}(h:PA3 X es mA):PE3 X (.Tuple es x1 pos) (zaf zaw mA):=PE.imp (zw8 h) fun σ H Q hx9_=>by
 obtain ⟨ρ,l,S,v,S',sim,ro,hm,p⟩:=hx9_
 obtain ⟨⟨x,S1⟩,h1,hm⟩:=bnd hm
 obtain ⟨hz,e⟩:=zbk hm
 cases e
 exact ⟨ρ,l,S,x,_,sim,ro,h1,fun ρ1 H1 vs e1 s1 r1=>⟨by rw [←r1.length];exact hz,zih s1 r1 (p.ext e1)⟩⟩
theorem zdp (h:PA3 X es mA):PE3 X (.List es pos) (zaf zc5 mA):=PE.imp (zw9 h) fun σ H Q hx10_=>by
 obtain ⟨ρ,l,S,v,S',sim,ro,hm,p⟩:=hx10_
 obtain ⟨⟨x,S1⟩,h1,hm⟩:=bnd hm
 obtain ⟨hz,e⟩:=zbk hm
 cases e
 exact ⟨ρ,l,S,x,_,sim,ro,h1,fun ρ1 H1 vs e1 s1 r1=>⟨by rw [←r1.length];exact hz,zii s1 r1 (p.ext e1)⟩⟩
theorem zpm {K:QFg}{f:FM}{r:List V->Hp->VK->Prop}(h3:Fn3 K f r) (σ:St) (H:Hp) (Q:VK) (q:te K (zaf f mA) σ H Q):tCB r (ta K mA) σ H Q:=by
 obtain ⟨ρ,l,S,v,S',sim,ro,hm,p⟩:=q
 obtain ⟨⟨x,S1⟩,h1,hm⟩:=bnd hm
 exact ⟨ρ,l,S,x,S1,sim,ro,h1,fun ρ1 H1 vs e1 s1 r1=>h3 ρ1 S1 H1 x vs v S' Q s1 r1 hm (p.ext e1)⟩
theorem zlf {x:Str}{p:Pos}{id:String}{f:FM}{r:List V->Hp->VK->Prop}(hc:CallR X (.builtin id) r) (h3:Fn3 X.K f r) (hg:Gl X x) (hm:X.mg x=none) (hv:bootBuiltins x=some (.builtin id)) (ha:PA3 X (a :: es) mA) (hn:x≠"__name__":=by decide) (hdb:(x == ("__debug__":Str))=false:=by decide)
  (he:starEach (a :: es) X.env=(false,eval a X.env) :: starEach es X.env:=by rfl) (hpl:(backTo pos (starEach es X.env)).any (·.1)=false:=by rfl):PE3 X (.Call (.Name x p) (a :: es) [] pos) (zaf f mA) :=
 PE.imp (zxd hc hg hm hv ha hn hdb he hpl) (zpm h3)
theorem zpn {x:Str}{p:Pos}{T:String}{f:FM}{r:List V->Hp->VK->Prop}(hc:CallR X (.type T) r) (h3:Fn3 X.K f r) (hg:Gl X x) (hm:X.mg x=none) (hv:bootBuiltins x=some (.type T)) (ha:PA3 X (a :: es) mA) (hn:x≠"__name__":=by decide) (hdb:(x == ("__debug__":Str))=false:=by decide)
  (he:starEach (a :: es) X.env=(false,eval a X.env) :: starEach es X.env:=by rfl) (hpl:(backTo pos (starEach es X.env)).any (·.1)=false:=by rfl):PE3 X (.Call (.Name x p) (a :: es) [] pos) (zaf f mA) :=
 PE.imp (zlb hc hg hm hv ha hn hdb he hpl) (zpm h3)
end
noncomputable def oI (C:Int->Int->Bool) (g:Int->Int->D):D->D->Sto->Option (D × Sto)
 | .int i,.int j,S=>if C i j=true then some (g i j,S) else none
 | _,_,_=>none
noncomputable def oI0 (g:Int->Int->D):D->D->Sto->Option (D × Sto)
 | .int i,.int j,S=>some (g i j,S)
 | _,_,_=>none
theorem zlg {K:QFg}{C:Int->Int->Bool}{C':Int->Int->Prop}{g:Int->Int->D}{g':Int->Int->V}(hC:∀i j,C i j=true->C' i j) (hg:∀ρ H i j,RD ρ H (g i j) (g' i j)):Op3 K (oI C g) (rI C' g'):=by
 intro ρ S H x y x' y' v S' Q sim rx ry h p
 unfold oI at h
 split at h
 ·rename_i i j
  cases rx;cases ry
  obtain ⟨hc,e⟩:=zbk h
  cases e
  exact ⟨i,j,rfl,rfl,hC i j hc,p ρ H _ (Ext.refl ..) sim (hg ρ H i j)⟩
 ·cases h
theorem zij {K:QFg}{g:Int->Int->D}{g':Int->Int->V}(hg:∀ρ H i j,RD ρ H (g i j) (g' i j)):Op3 K (oI0 g) (rI0 g'):=by
 intro ρ S H x y x' y' v S' Q sim rx ry h p
 unfold oI0 at h
 split at h
 ·rename_i i j
  cases rx;cases ry
  cases h
  exact ⟨i,j,rfl,rfl,p ρ H _ (Ext.refl ..) sim (hg ρ H i j)⟩
 ·cases h
theorem Op3.or {K:QFg}{f:D->D->Sto->Option (D × Sto)}{g:D->D->Sto->Option (D × Sto)}{r r':R2}(h:Op3 K f r) (h':Op3 K g r'):Op3 K (fun x y S=>match f x y S with|some v=>some v|none=>g x y S) (fun x y H Q=>r x y H Q∨r' x y H Q):=by
 intro ρ S H x y x' y' v S' Q sim rx ry hm p
 dsimp only at hm
 cases e:f x y S with
 | some w=>rw [e] at hm;cases hm;exact .inl (h ρ S H x y x' y' _ _ Q sim rx ry e p)
 | none=>rw [e] at hm;exact .inr (h' ρ S H x y x' y' _ _ Q sim rx ry hm p)
noncomputable abbrev zlh:=oI0 fun i j=>.int (i+j)
noncomputable abbrev zli:=oI0 fun i j=>.int (i-j)
noncomputable abbrev zjn:=oI (fun i j=>decide (0<j/\j<1073741824)) fun i j=>.int (i / j)
noncomputable abbrev zcq:=oI (fun i j=>decide (0<j)) fun i j=>.int (i % j)
noncomputable abbrev zlj:=oI (fun i j=>decide (0<=j/\j<=1000000/\i.natAbs<2 ^ 64)) fun i j=>.int (i ^ j.toNat)
noncomputable abbrev dLt:=oI0 fun i j=>.bl (decide (i<j))
noncomputable abbrev dGt:=oI0 fun i j=>.bl (decide (j<i))
noncomputable abbrev dGe:=oI0 fun i j=>.bl (decide (j<=i))
section
variable {X:Cx}{a b:Expr}{ma mb:EM}{pos:Pos}
theorem zyh (ha:PE3 X a ma) (hb:PE3 X b mb):PE3 X (.BinOp a .Sub b pos) (eOp zli ma mb):=zg9 zws (zij fun _ _ _ _=>.int _) ha hb
theorem zlk (ha:PE3 X a ma) (hb:PE3 X b mb):PE3 X (.BinOp a .FloorDiv b pos) (eOp zjn ma mb):=zg9 zwt (zlg (fun i j h=>by first|(unfold CMul;exact of_decide_eq_true h)|(unfold zjd;exact of_decide_eq_true h)|(unfold zje;exact of_decide_eq_true h)|exact of_decide_eq_true h) fun _ _ _ _=>.int _) ha hb
theorem zdh (ha:PE3 X a ma) (hb:PE3 X b mb):PE3 X (.BinOp a .Mod b pos) (eOp zcq ma mb):=zg9 zwu (zlg (fun i j h=>by first|(unfold CMul;exact of_decide_eq_true h)|(unfold zjd;exact of_decide_eq_true h)|(unfold zje;exact of_decide_eq_true h)|exact of_decide_eq_true h) fun _ _ _ _=>.int _) ha hb
theorem zpo (ha:PE3 X a ma) (hb:PE3 X b mb):PE3 X (.BinOp a .Pow b pos) (eOp zlj ma mb):=zg9 zwv (zlg (fun i j h=>by first|(unfold CMul;exact of_decide_eq_true h)|(unfold zjd;exact of_decide_eq_true h)|(unfold zje;exact of_decide_eq_true h)|exact of_decide_eq_true h) fun _ _ _ _=>.int _) ha hb
theorem zpp (ha:PE3 X a ma) (hb:PE3 X b mb):PE3 X (.Compare a [.Lt] [b] pos) (eOp dLt ma mb):=zgj zok (zij fun _ _ _ _=>.bl _) ha hb (zco b)
theorem zjo (ha:PE3 X a ma) (hb:PE3 X b mb):PT3 X (.Compare a [.Lt] [b] pos) (tE (eOp dLt ma mb)):=zdo zok (zij fun _ _ _ _=>.bl _) ha hb (zco b)
theorem zjp (ha:PE3 X a ma) (hb:PE3 X b mb):PT3 X (.Compare a [.Gt] [b] pos) (tE (eOp dGt ma mb)):=zdo zwx (zij fun _ _ _ _=>.bl _) ha hb (zco b)
theorem zll (ha:PE3 X a ma) (hb:PE3 X b mb):PT3 X (.Compare a [.GtE] [b] pos) (tE (eOp dGe ma mb)):=zdo zwy (zij fun _ _ _ _=>.bl _) ha hb (zco b)
end
noncomputable def sEq:D->D->Option Bool
 | .non,.non=>some true | .non,.int _=>some false | .int _,.non=>some false | .non,.bl _=>some false | .bl _,.non=>some false | .non,.str _=>some false | .str _,.non=>some false
 | .int i,.int j=>some (decide (i=j)) | .bl i,.bl j=>some (decide (i=j)) | .str i,.str j=>some (decide (i=j))
 | .int _,.str _=>some false | .str _,.int _=>some false | .bl _,.str _=>some false | .str _,.bl _=>some false
 | _,_=>none
noncomputable def dEq:D->D->Sto->Option (D × Sto):=fun x y S=>(sEq x y).bind fun b=>some (.bl b,S)
noncomputable def dNe:D->D->Sto->Option (D × Sto):=fun x y S=>(sEq x y).bind fun b=>some (.bl (!b),S)
theorem zpq {ρ:List Addr}{H:Hp}{x y:D}{x' y':V}{b:Bool}(rx:RD ρ H x x') (ry:RD ρ H y y') (h:sEq x y=some b):zk9 x' y' = true/\decide (x' = y')=b:=by
 cases rx <;> cases ry <;> first
  | (unfold sEq at h;cases h;exact ⟨rfl,by simp⟩)
  | (unfold sEq at h;cases h;exact ⟨rfl,by simp;rfl⟩)
  | (unfold sEq at h;cases h)
theorem zpr {K:QFg}:Op3 K dEq rEq:=by
 intro ρ S H x y x' y' v S' Q sim rx ry h p
 obtain ⟨b,h1,h⟩:=bnd h
 cases h
 obtain ⟨h2,h3⟩:=zpq rx ry h1
 exact ⟨h2,by rw [h3];exact p ρ H _ (Ext.refl ..) sim (.bl b)⟩
theorem zps {K:QFg}:Op3 K dNe rNe:=by
 intro ρ S H x y x' y' v S' Q sim rx ry h p
 obtain ⟨b,h1,h⟩:=bnd h
 cases h
 obtain ⟨h2,h3⟩:=zpq rx ry h1
 exact ⟨h2,by rw [h3];exact p ρ H _ (Ext.refl ..) sim (.bl _)⟩
noncomputable def zch:D->Bool
 | .non=>true
 | _=>false
noncomputable def dIs:D->D->Sto->Option (D × Sto)
 | x,.non,S=>some (.bl (zch x),S)
 | _,_,_=>none
noncomputable def zdq:D->D->Sto->Option (D × Sto)
 | x,.non,S=>some (.bl (!zch x),S)
 | _,_,_=>none
theorem zpt {ρ:List Addr}{H:Hp}{x:D}{x':V}(r:RD ρ H x x'):decide (x' = .non)=zch x:=by
 cases r <;> simp [zch]
theorem zpu {K:QFg}:Op3 K dIs (fun x y H Q=>y=.non/\Q (.bl (decide (x=.non))) H):=by
 intro ρ S H x y x' y' v S' Q sim rx ry h p
 unfold dIs at h
 split at h
 ·cases h;cases ry
  exact ⟨rfl,by rw [zpt rx];exact p ρ H _ (Ext.refl ..) sim (.bl _)⟩
 ·cases h
theorem zpv {K:QFg}:Op3 K zdq (fun x y H Q=>y=.non/\Q (.bl (!decide (x=.non))) H):=by
 intro ρ S H x y x' y' v S' Q sim rx ry h p
 unfold zdq at h
 split at h
 ·cases h;cases ry
  exact ⟨rfl,by rw [zpt rx];exact p ρ H _ (Ext.refl ..) sim (.bl _)⟩
 ·cases h
section
variable {X:Cx}{a b:Expr}{ma mb:EM}{pos:Pos}
theorem zjq (ha:PE3 X a ma) (hb:PE3 X b mb):PE3 X (.Compare a [.Eq] [b] pos) (eOp dEq ma mb):=zgj zoi zpr ha hb (zco b)
theorem zyi (ha:PE3 X a ma) (hb:PE3 X b mb):PE3 X (.Compare a [.NotEq] [b] pos) (eOp dNe ma mb):=zgj zoj zps ha hb (zco b)
theorem zyj (ha:PE3 X a ma) (hb:PE3 X b mb):PE3 X (.Compare a [.Is] [b] pos) (eOp dIs ma mb):=zgj zol zpu ha hb (zco b)
theorem zlm (ha:PE3 X a ma) (hb:PE3 X b mb):PE3 X (.Compare a [.IsNot] [b] pos) (eOp zdq ma mb):=zgj zom zpv ha hb (zco b)
theorem zjr (ha:PE3 X a ma) (hb:PE3 X b mb):PT3 X (.Compare a [.Eq] [b] pos) (tE (eOp dEq ma mb)):=zdo zoi zpr ha hb (zco b)
theorem zjs (ha:PE3 X a ma) (hb:PE3 X b mb):PT3 X (.Compare a [.NotEq] [b] pos) (tE (eOp dNe ma mb)):=zdo zoj zps ha hb (zco b)
theorem zgk (ha:PE3 X a ma) (hb:PE3 X b mb):PT3 X (.Compare a [.Is] [b] pos) (tE (eOp dIs ma mb)):=zdo zol zpu ha hb (zco b)
theorem zln (ha:PE3 X a ma) (hb:PE3 X b mb):PT3 X (.Compare a [.IsNot] [b] pos) (tE (eOp zdq ma mb)):=zdo zom zpv ha hb (zco b)
end
noncomputable def dIx:D->D->Sto->Option (D × Sto)
 | .tup xs,.int i,S=>(atI xs i).bind fun v=>some (v,S)
 | .ref n,.int i,S=>(lstOf S n).bind fun xs=>(atI xs i).bind fun v=>some (v,S)
 | _,_,_=>none
theorem zpw {ρ:List Addr}{H:Hp}{xs:List D}{vs:List V}{i:Int}{x:D}(r:RDs ρ H xs vs) (h:atI xs i=some x):∃v,atI vs i=some v/\RD ρ H x v:=by
 unfold atI at h ⊢
 rw [←r.length]
 cases e:ixN xs.length i with
 | none=>rw [e] at h;cases h
 | some j =>
  rw [e] at h
  exact r.get (i:=j) h
theorem zyk {K:QFg}:Op3 K dIx (rIx K):=by
 intro ρ S H x y x' y' v S' Q sim rx ry h p
 unfold dIx at h
 split at h
 ·cases ry
  obtain ⟨w,h1,h⟩:=bnd h
  cases h
  cases rx with
  | tup ha r =>
   obtain ⟨u,h2,r2⟩:=zpw r h1
   exact .inr (.inl ⟨_,_,_,u,rfl,rfl,SqT.of ha,h2,p ρ H u (Ext.refl ..) sim r2⟩)
 ·cases ry
  obtain ⟨xs,h0,h⟩:=bnd h
  obtain ⟨w,h1,h⟩:=bnd h
  cases h
  cases rx with
  | ref hn =>
   obtain ⟨a,vs,ha,sq,r⟩:=sim.lstOf h0
   rw [ha] at hn;cases hn
   obtain ⟨u,h2,r2⟩:=zpw r h1
   exact .inl ⟨_,_,_,u,rfl,rfl,sq,h2,p ρ H u (Ext.refl ..) sim r2⟩
 ·cases h
section
variable {X:Cx}{a b:Expr}{ma mb:EM}{pos:Pos}
end
noncomputable abbrev OM:=Lo->Sto->Option (Option Int × Sto)
noncomputable def zb7:OM:=fun _ S=>some (none,S)
noncomputable def zb2 (m:EM):OM:=fun l S=>(m l S).bind fun p=>match p.1 with
 | .int i=>some (some i,p.2)
 | _=>none
noncomputable def zbw (xs:List D) (lo hi:Option Int):List D:=(xs.drop (HT.sIx xs.length 0 lo)).take (HT.sIx xs.length xs.length hi-HT.sIx xs.length 0 lo)
inductive tO (K:QFg) (m:OM) (σ:St) (H:Hp) (Q:Option Int->Hp->Prop):Prop
 | mk (ρ:_) (l:_) (S:_) (v:_) (S':_) (_:Sim K ρ S H) (_:RO ρ H l σ) (_:m l S=some (v,S')) (_:∀ρ' H',Ext ρ H ρ' H'->Sim K ρ' S' H'->Q v H')
noncomputable def PO3 (X:Cx) (e:Option Expr) (m:OM):Prop:=PO X e (tO X.K m)
section
variable {X:Cx}{a b:Expr}{ma mb:EM}{pos p2:Pos}{lo hi:Option Expr}{ml mh:OM}
theorem PO.imp {e:Option Expr}{t u:TO}(h:PO X e t) (i:∀σ H Q,u σ H Q->t σ H Q):PO X e u:=fun pins s σ H Q I q=>h pins s σ H Q I (i _ _ _ q)
theorem zc6:PO3 X none zb7:=PO.imp zxn fun σ H Q hx1_=>by
 obtain ⟨ρ,l,S,v,S',sim,ro,hm,p⟩:=hx1_
 cases hm
 exact p ρ H (Ext.refl ..) sim
theorem zc7 (h:PE3 X a ma):PO3 X (some a) (zb2 ma):=PO.imp (zxo h) fun σ H Q hx2_=>by
 obtain ⟨ρ,l,S,v,S',sim,ro,hm,p⟩:=hx2_
 obtain ⟨⟨x,S1⟩,h1,hm⟩:=bnd hm
 refine ⟨ρ,l,S,x,S1,sim,ro,h1,fun ρ1 H1 x' e1 s1 r1=>?_⟩
 cases r1 with
 | int i=>cases hm;exact ⟨i,rfl,p ρ1 H1 e1 s1⟩
 | _=>cases hm
end
end L3
namespace HT
open PySem PyProof.Rows
section
variable {prog:Program}{w:World}{A:Around}{E:Value->Shared->Prop}{s:Shared}
theorem getItem_tuple_whole {t sl:Addr}{items:Array Value}{vl vu:Value}{lo hi:Option Int}{Q:Value->Shared->Prop}(ht:IsTup s.heap t items) (hs:s.heap.IsSliceOf sl vl vu .none) (pl:IsPart vl lo) (pu:IsPart vu hi)
  (hw:sIx items.size 0 lo=0/\sIx items.size items.size hi=items.size)
  (h:Q (.ref t) s):wpAny (model prog w) A (getItem (.ref t) (.ref sl)) Q E s:=by
 obtain ⟨os,hos,hcs,hds⟩:=id hs
 have hTs:s.TypeIs (.ref sl) "slice":=⟨os,hos,hcs⟩
 unfold getItem
 try with_reducible refine wpAny_holding ?_
 first|refine wpAny_bind (wpAny_pure ?_)|skip
 refine wpAny_bind (wpAny_sequenceKey ht.typeIs (by decide) ?_)
 refine wpAny_bind (wpAny_callSpecial?_slot (name:=Str.ofString "__getitem__") ht.typeIs PyProof.Rows.slot_tuple_getitem
  (wpAny_call_entry PyProof.Rows.slot_tuple_getitem ht.typeIs entry_tuple_getitem ?_ (args_tuple_getitem _ _)))
 show wpAny _ _ (Builtin.Tuple.tupleItemsOf (.ref t) >>= _) _ _ s
 refine wpAny_bind (tupleItemsOf_ ht ?_)
 refine wpAny_bind (wpAny_typeOf hTs ?_)
 rw [if_pos (by decide)]
 refine wpAny_bind (zoz hs pl pu ?_)
 have hyes:((((sIx items.size 0 lo:Nat):Int) == 0 && (1:Int) == 1 && (sIx items.size items.size hi-sIx items.size 0 lo) == items.size)=true):=by
  rw [hw.1,hw.2];simp
 show wpAny _ _ (if (((sIx items.size 0 lo:Nat):Int) == 0 && (1:Int) == 1 && (sIx items.size items.size hi-sIx items.size 0 lo) == items.size)=true then _ else _) _ _ s
 rw [if_pos hyes]
 unfold Builtin.Tuple.tupleIsExact
 refine wpAny_bind (wpAny_bind (wpAny_typeOf ht.typeIs (wpAny_pure ?_)))
 rw [if_pos (by decide)]
 exact wpAny_bind (wpAny_rule (wpAny_bind (wpAny_pure (wpAny_pure ⟨_,rfl,wpAny_pure h⟩))))
end
end HT
namespace L3
open PySem PySem.Spec PyProof.Rows L2
section
variable {X:Cx}{a b:Expr}{ma mb:EM}{pos p2:Pos}{lo hi:Option Expr}{ml mh:OM}
noncomputable def zyl (K:QFg):V->Option Int->Option Int->Hp->VK->Prop:=fun x lo hi H Q=>∃a xs,x=.ref a/\SqT K H a xs /\
 (HT.sIx xs.length 0 lo=0/\HT.sIx xs.length xs.length hi=xs.length)/\Q (.ref a) H
theorem zym:SlR X (zyl X.K):=by
 intro pins s σ H x v vl vu lo hi sl Q I rx hs pl pu h
 obtain ⟨a,xs,rfl,hx,hw,q⟩:=h
 cases rx
 obtain ⟨its,r,ht,hz⟩:=I.tuple hx
 have hlen:its.toArray.size=xs.length:=by rw [List.size_toArray];exact r.length.symm
 refine ⟨"tuple",_,PyProof.Rows.slot_tuple_getitem.lookup,ht.typeIs,?_⟩
 exact HT.getItem_tuple_whole ht hs pl pu (by rw [hlen];exact hw) ⟨.ref a,H,I,rfl,q⟩
theorem zyn (xs:List D) (lo hi:Option Int) (h:HT.sIx xs.length 0 lo=0/\HT.sIx xs.length xs.length hi=xs.length):zbw xs lo hi=xs:=by
 unfold zbw;rw [h.1,h.2];simp
end
noncomputable def zlo:D->D->Sto->Option (D × Sto)
 | .tup xs,.tup ys,S=>if xs.length+ys.length<=sizeLine then some (.tup (xs++ys),S) else none
 | _,_,_=>none
noncomputable def zlp (K:QFg):R2:=fun x y H Q=>∃a b ys,x=.ref a/\y=.ref b/\SqT K H a []/\SqT K H b ys/\Q (.ref b) H
theorem zyo {X:Cx}:OpR X (binaryOp .Add) (zlp X.K):=by
 intro pins s σ H x y v u Q I rx ry h
 obtain ⟨a,b,ys,rfl,rfl,ha,hb,q⟩:=h
 cases rx
 cases ry
 obtain ⟨its,r1,p1,_⟩:=I.tuple ha
 obtain ⟨its2,r2,p2,_⟩:=I.tuple hb
 cases r1
 obtain ⟨⟨cls,dd,data,sl⟩,ho,hc,n,hd⟩:=id p1
 obtain ⟨⟨cls2,dd2,data2,sl2⟩,ho2,hc2,n2,hd2⟩:=id p2
 simp only at hc hd hc2 hd2
 subst hc hd hc2 hd2
 exact concat_meets ⟨_,ho,rfl⟩ ⟨_,ho2,rfl⟩ noFill_tuple_add seq_tuple_add PySem.F.slot_tuple_add PySem.F.entry_tuple_add (PySem.F.args_tuple_add_2 _ _)
   (tuple_addW0 a b ([]:List Value).toArray its2.toArray n n2 dd dd2 sl sl2 (by simp)) ⟨ho,ho2,⟨.ref b,H,I,rfl,q⟩⟩
theorem zyp {K:QFg}:Op3 K zlo (fun x y H Q=>zlc K x y H Q∨zlp K x y H Q):=by
 intro ρ S H x y x' y' v S' Q sim rx ry h p
 unfold zlo at h
 split at h
 ·obtain ⟨hz,e⟩:=zbk h
  cases e
  cases rx with
  | @tup xs a vs ha r =>
   cases ry with
   | @tup ys b ws hb q =>
    cases r with
    | nil=>exact .inr ⟨a,b,ws,rfl,rfl,SqT.of ha,SqT.of hb,p ρ H _ (Ext.refl ..) sim (.tup hb q)⟩
    | cons r1 r2 =>
     refine .inl ⟨a,b,_,ws,rfl,rfl,SqT.of ha,SqT.of hb,by simp,by rw [←(RDs.cons r1 r2).length,←q.length];exact hz,fun e=>?_,fun _=>?_⟩
     ·subst e
      cases q
      rw [List.append_nil] at p
      exact p ρ H _ (Ext.refl ..) sim (.tup ha (.cons r1 r2))
     ·exact zih sim ((RDs.cons r1 r2).append q) p
 ·cases h
section
variable {X:Cx}{a b:Expr}{ma mb:EM}{pos:Pos}
end
noncomputable def zik:FM
 | [.tup xs],S=>some (.int xs.length,S)
 | [.ref n],S=>(lstOf S n).bind fun xs=>some (.int xs.length,S)
 | _,_=>none
noncomputable def zgl:FM
 | [.int i],S=>some (.int (if i<0 then -i else i),S)
 | _,_=>none
noncomputable def zlq:FM
 | [.int i],S=>some (.int i,S)
 | [.bl b],S=>some (.int (if b then 1 else 0),S)
 | _,_=>none
noncomputable def zec:FM
 | [.tup xs],S=>some (.tup xs,S)
 | [.ref n],S=>(lstOf S n).bind fun xs=>some (.tup xs,S)
 | _,_=>none
section
variable {K:QFg}
theorem zyq:Fn3 K zik (fun xs H Q=>∃p ys,xs=[.ref p]/\(SqL K H p ys∨SqT K H p ys)/\Q (.int ys.length) H):=by
 intro ρ S H xs vs v S' Q sim r h p
 unfold zik at h
 split at h
 ·cases h
  obtain ⟨w,rfl,rw'⟩:=r.one
  cases rw' with
  | tup ha r2=>exact ⟨_,_,rfl,.inr (SqT.of ha),by rw [←r2.length];exact p ρ H _ (Ext.refl ..) sim (.int _)⟩
 ·obtain ⟨ys,h1,h⟩:=bnd h
  cases h
  obtain ⟨w,rfl,rw'⟩:=r.one
  obtain ⟨a,us,ha,sq,r2⟩:=sim.lstOf h1
  cases rw' with
  | ref hn =>
   rw [ha] at hn;cases hn
   exact ⟨_,_,rfl,.inl sq,by rw [←r2.length];exact p ρ H _ (Ext.refl ..) sim (.int _)⟩
 ·cases h
theorem zyr:Fn3 K zgl (fun xs H Q=>∃i,xs=[.int i]/\Q (.int (if i<0 then -i else i)) H):=by
 intro ρ S H xs vs v S' Q sim r h p
 unfold zgl at h
 split at h
 ·cases h
  obtain ⟨w,rfl,rw'⟩:=r.one
  cases rw'
  exact ⟨_,rfl,p ρ H _ (Ext.refl ..) sim (.int _)⟩
 ·cases h
theorem zys:Fn3 K zlq (fun xs H Q=>(∃i,xs=[.int i]/\Q (.int i) H)∨∃k,xs=[.bl k]/\Q (.int (if k then 1 else 0)) H):=by
 intro ρ S H xs vs v S' Q sim r h p
 unfold zlq at h
 split at h
 ·cases h
  obtain ⟨w,rfl,rw'⟩:=r.one
  cases rw'
  exact .inl ⟨_,rfl,p ρ H _ (Ext.refl ..) sim (.int _)⟩
 ·cases h
  obtain ⟨w,rfl,rw'⟩:=r.one
  cases rw'
  exact .inr ⟨_,rfl,p ρ H _ (Ext.refl ..) sim (.int _)⟩
 ·cases h
theorem zyt:Fn3 K zec (fun xs H Q=>∃p ys,xs=[.ref p]/\((SqL K H p ys/\∀l,H l=none->Q (.ref l) (upd H l (.tup ys)))∨(SqT K H p ys/\Q (.ref p) H))):=by
 intro ρ S H xs vs v S' Q sim r h p
 unfold zec at h
 split at h
 ·cases h
  obtain ⟨w,rfl,rw'⟩:=r.one
  cases rw' with
  | tup ha r2=>exact ⟨_,_,rfl,.inr ⟨SqT.of ha,p ρ H _ (Ext.refl ..) sim (.tup ha r2)⟩⟩
 ·obtain ⟨ys,h1,h⟩:=bnd h
  cases h
  obtain ⟨w,rfl,rw'⟩:=r.one
  obtain ⟨a,us,ha,sq,r2⟩:=sim.lstOf h1
  cases rw' with
  | ref hn =>
   rw [ha] at hn;cases hn
   exact ⟨_,_,rfl,.inl ⟨sq,zih sim r2 p⟩⟩
 ·cases h
end
noncomputable def zcy:D->List D->Sto->Option (D × Sto)
 | .ref n,[x],S=>match S[n]? with
  | some (.lst xs)=>if xs.length<sizeLine then some (.non,S.set n (.lst (xs++[x]))) else none
  | _=>none
 | _,_,_=>none
section
variable {K:QFg}
theorem zyu:Mt3 K zcy zpa:=by
 intro ρ S H x x' xs vs v S' Q sim rx r h p
 unfold zcy at h
 split at h
 ·split at h
  ·rename_i n y S ys e
   obtain ⟨hz,e2⟩:=zbk h
   cases e2
   obtain ⟨w,rfl,rw'⟩:=r.one
   obtain ⟨a,us,ha,hH,r2⟩:=sim.lst e
   cases rx with
   | ref hn =>
    rw [ha] at hn;cases hn
    exact ⟨a,us,w,rfl,rfl,hH,by rw [←r2.length];exact hz,p ρ _ _ (zjh ha hH) (sim.set ha e hH (r2.append (.cons rw' .nil))) .non⟩
  ·cases h
 ·cases h
end
noncomputable def zhc:D->Sto->Option (List D)
 | .ref n,S=>lstOf S n
 | _,_=>none
noncomputable def zcz (f:D->List D->Sto->Option (D × Sto)) (o:EM) (as:AM):EM:=fun l S=>(o l S).bind fun p=>(zhc p.1 p.2).bind fun _=>(as l p.2).bind fun q=>f p.1 q.1 q.2
section
variable {X:Cx}{a o e:Expr}{es:List Expr}{mo:EM}{mA:AM}{name:Str}{apos cpos pos:Pos}{id:String}{f:D->List D->Sto->Option (D × Sto)}{r:V->List V->Hp->VK->Prop}
theorem zyv {K:QFg}{ρ:List Addr}{S:Sto}{H:Hp}{x:D}{x':V}{xs:List D}(sim:Sim K ρ S H) (rx:RD ρ H x x') (h:zhc x S=some xs):tyV K "list" x' H:=by
 unfold zhc at h
 split at h
 ·obtain ⟨a,us,ha,sq,r2⟩:=sim.lstOf h
  cases rx with
  | ref hn =>
   rw [ha] at hn;cases hn
   exact .inl ⟨rfl,us,sq⟩
 ·cases h
theorem zpx (slot:Slot "list" name id) (hty:typeOf (.builtin id)=pure (.type "method_descriptor")) (hm:MtM X id r) (h3:Mt3 X.K f r) (ho:PE3 X o mo) (ha:PA3 X (e :: es) mA)
  (hbase:attributeBase o name X.env (eval o X.env)=eval o X.env:=by rfl)
  (hfew:((backTo cpos (starEach (e :: es) X.env)).all (fun x=>!x.1) && (backToKw cpos (keywordEach [] X.env)).all (fun x=>x.1.isSome)
   && decide ((e :: es).length+([]:List Keyword).length+(if ([]:List Keyword).isEmpty then 0 else 1)<30))=true:=by rfl)
  (hline:(apos.endLine == cpos.line)=true:=by rfl) (hs:starEach (e :: es) X.env=(false,eval e X.env) :: starEach es X.env:=by rfl) (hplain:(backTo cpos (starEach es X.env)).any (·.1)=false:=by rfl) :
  PE3 X (.Call (.Attribute o name apos) (e :: es) [] cpos) (zcz f mo mA) :=
 PE.imp (zx6 PySem.F.plainAttrs_list slot hty hm ho ha hbase hfew hline hs hplain) fun σ H Q hx1_=>by
  obtain ⟨ρ,l,S,v,S',sim,ro,hq,p⟩:=hx1_
  obtain ⟨⟨x,S1⟩,h1,hq⟩:=bnd hq
  obtain ⟨xs,h2,hq⟩:=bnd hq
  obtain ⟨⟨ys,S2⟩,h4,hq⟩:=bnd hq
  exact ⟨ρ,l,S,x,S1,sim,ro,h1,fun ρ1 H1 x' e1 s1 r1=>⟨zyv s1 r1 h2,ρ1,l,S1,ys,S2,s1,ro.mono e1,h4,fun ρ2 H2 vs e2 s2 r2=>h3 ρ2 S2 H2 x x' ys vs v S' Q s2 (r1.mono e2) r2 hq (p.ext (e1.trans e2))⟩⟩
theorem zgm {m:EM}(ho:PE3 X o mo) (he:PE3 X e m)
  (hbase:attributeBase o "append" X.env (eval o X.env)=eval o X.env:=by rfl)
  (hfew:((backTo cpos (starEach [e] X.env)).all (fun x=>!x.1) && (backToKw cpos (keywordEach [] X.env)).all (fun x=>x.1.isSome)
   && decide ([e].length+([]:List Keyword).length+(if ([]:List Keyword).isEmpty then 0 else 1)<30))=true:=by rfl)
  (hline:(apos.endLine == cpos.line)=true:=by rfl) (hs:starEach [e] X.env=(false,eval e X.env) :: starEach [] X.env:=by rfl) :
  PE3 X (.Call (.Attribute o "append" apos) [e] [] cpos) (zcz zcy mo (zac m zae)) :=
 zpx PySem.F.slot_list_append PySem.F.type_list_append zpb zyu ho (zad he zah hs) hbase hfew hline hs
end
section
variable {X:Cx}{a:Expr}{ma:EM}{pos p p2:Pos}
end
noncomputable def sp3 (K:QFg) (n:Nat) (f:FM):Sp:=fun vs H Q _=>vs.length=n/\∃ρ ds S v S',Sim K ρ S H/\RDs ρ H ds vs/\f ds S=some (v,S')/\Pv K ρ H v S' Q
section
variable {X:Cx}{a:Expr}{es:List Expr}{mA:AM}{pos p:Pos}{x:Str}{k:Nat}{f:Addr}{fd:FuncData}{ps:List Str}{m:FM}
theorem zyw {n:Nat}(F:FnOk X.prog X.w X.K X.mg X.base CX0 k f fd ps (sp3 X.K n m)) (hr:Room k X.A) (hg:Gl X x) (hm:X.mg x=some (.ref f)) (hk:PySem.W.keepIn X.K (.ref f)=true) (hb:Binds X.K fd ps [])
  (ha:PA3 X (a :: es) mA) (hl:∀l S v S',mA l S=some (v,S')->v.length=n) (hdb:(x == ("__debug__":Str))=false:=by decide) (he:starEach (a :: es) X.env=(false,eval a X.env) :: starEach es X.env:=by rfl) (hpl:(backTo pos (starEach es X.env)).any (·.1)=false:=by rfl) :
  PE3 X (.Call (.Name x p) (a :: es) [] pos) (zaf m mA) :=
 PE.imp (zxa F hr hg hm hk hb .nil zpg ha hdb he hpl) fun σ H Q hx3_=>by
  obtain ⟨ρ,l,S,v,S',sim,ro,hq,p⟩:=hx3_
  obtain ⟨⟨xs,S1⟩,h1,hq⟩:=bnd hq
  exact ⟨ρ,l,S,xs,S1,sim,ro,h1,fun ρ1 H1 vs e1 s1 r1=>⟨by rw [List.append_nil,←r1.length];exact hl _ _ _ _ h1,ρ1,xs,S1,v,S',s1,by rw [List.append_nil];exact r1,hq,p.ext e1⟩⟩
theorem zat:∀l S v S',zae l S=some (v,S')->v.length=0:=fun l S v S' h=>by cases h;rfl
theorem zai {n:Nat}{m:EM}{mA:AM}(h:∀l S v S',mA l S=some (v,S')->v.length=n):∀l S v S',zac m mA l S=some (v,S')->v.length=n+1:=fun l S v S' q=>by
 obtain ⟨⟨x,S1⟩,h1,q⟩:=bnd q
 obtain ⟨⟨y,S2⟩,h2,q⟩:=bnd q
 cases q
 rw [List.length_cons,h _ _ _ _ h2]
end
noncomputable def zbl:SM:=fun l S=>some (.nx,l,S)
noncomputable def zjt:SM:=fun l S=>some (.bk,l,S)
noncomputable def zak (a b:SM):SM:=fun l S=>(a l S).bind fun p=>match p.1 with
 | .nx=>b p.2.1 p.2.2
 | f=>some (f,p.2)
noncomputable def zc8 (e:EM):SM:=fun l S=>(e l S).bind fun p=>some (.nx,l,p.2)
noncomputable def za4 (e:EM):SM:=fun l S=>(e l S).bind fun p=>some (.rt p.1,l,p.2)
noncomputable def sIf (c:TM) (a b:SM):SM:=fun l S=>(c l S).bind fun p=>if p.1=true then a l p.2 else b l p.2
noncomputable def zap (e:EM) (g:GM):SM:=fun l S=>(e l S).bind fun p=>(g p.1 l p.2).bind fun q=>some (.nx,q)
noncomputable def zal (i:Nat):GM:=fun d l S=>some (l.set i (some d),S)
noncomputable def zcr:GsM
 | [],l,S=>some (l,S)
 | _,_,_=>none
noncomputable def zbf (g:GM) (r:GsM):GsM
 | x :: xs,l,S=>(g x l S).bind fun p=>r xs p.1 p.2
 | _,_,_=>none
noncomputable def zcs (n:Nat) (g:GsM):GM
 | .tup xs,l,S=>if xs.length=n then g xs l S else none
 | _,_,_=>none
noncomputable def zdr:D->D->D->Sto->Option Sto
 | .ref n,.int i,v,S=>match S[n]? with
  | some (.lst xs)=>(ixN xs.length i).bind fun j=>some (S.set n (.lst (xs.set j v)))
  | _=>none
 | _,_,_,_=>none
noncomputable def zgn (o i:EM):GM:=fun v l S=>(o l S).bind fun p=>(i l p.2).bind fun q=>(zdr p.1 q.1 v q.2).bind fun S'=>some (l,S')
section
variable {X:Cx}{st:Stmt}{rest:List Stmt}{m n:SM}{e c:Expr}{me:EM}{pos:Pos}
theorem zbt:zc3 X [] zbl:=PSs.imp zvn fun E σ H hx1_=>by
 obtain ⟨ρ,l,S,f,l',S',sim,ro,hm,p⟩:=hx1_
 cases hm
 exact p ρ H σ (Ext.refl ..) sim ro
theorem zam (h1:PS3 X st m) (h2:zc3 X rest n):zc3 X (st :: rest) (zak m n):=PSs.imp (zvo h1 h2) fun E σ H hx2_=>by
 obtain ⟨ρ,l,S,f,l',S',sim,ro,hm,p⟩:=hx2_
 obtain ⟨⟨g,l1,S1⟩,q1,hm⟩:=bnd hm
 refine ⟨ρ,l,S,g,l1,S1,sim,ro,q1,fun ρ1 H1 σ1 e1 s1 r1=>?_⟩
 cases g with
 | nx=>exact ⟨ρ1,l1,S1,f,l',S',s1,r1,hm,fun ρ2 H2 σ2 e2 s2 r2=>p ρ2 H2 σ2 (e1.trans e2) s2 r2⟩
 | bk=>cases hm;exact p ρ1 H1 σ1 e1 s1 r1
 | ct=>cases hm;exact p ρ1 H1 σ1 e1 s1 r1
 | rt d=>cases hm;exact p ρ1 H1 σ1 e1 s1 r1
theorem zas (h1:PS3 X st m):zc3 X [st] m:=zvp h1
theorem zyx:PS3 X (.Break pos) zjt:=PS.imp zvr fun E σ H hx4_=>by
 obtain ⟨ρ,l,S,f,l',S',sim,ro,hm,p⟩:=hx4_
 cases hm
 exact p ρ H σ (Ext.refl ..) sim ro
theorem zez (he:PE3 X e me) (hs:swapsWith e none pos.line X.env=pure false:=by rfl):PS3 X (.Expr e pos) (zc8 me):=PS.imp (zvt he hs) fun E σ H hx6_=>by
 obtain ⟨ρ,l,S,f,l',S',sim,ro,hm,p⟩:=hx6_
 obtain ⟨⟨x,S1⟩,q1,hm⟩:=bnd hm
 cases hm
 exact ⟨ρ,l,S,x,_,sim,ro,q1,fun ρ1 H1 x' e1 s1 _=>p ρ1 H1 σ e1 s1 (ro.mono e1)⟩
theorem za9 (he:PE3 X e me):PS3 X (.Return (some e) pos) (za4 me):=PS.imp (zvv he) fun E σ H hx7_=>by
 obtain ⟨ρ,l,S,f,l',S',sim,ro,hm,p⟩:=hx7_
 obtain ⟨⟨x,S1⟩,q1,hm⟩:=bnd hm
 cases hm
 exact ⟨ρ,l,S,x,_,sim,ro,q1,fun ρ1 H1 x' e1 s1 r1=>p ρ1 H1 σ e1 s1 (ro.mono e1) x' r1⟩
theorem zbp {c:Expr}{a b:List Stmt}{mc:TM}(hc:PT3 X c mc) (ha:zc3 X a m) (hb:zc3 X b n):PS3 X (.If c a b pos) (sIf mc m n):=PS.imp (zvx hc ha hb) fun E σ H hx9_=>by
 obtain ⟨ρ,l,S,f,l',S',sim,ro,hm,p⟩:=hx9_
 obtain ⟨⟨x,S1⟩,q1,hm⟩:=bnd hm
 refine ⟨ρ,l,S,x,S1,sim,ro,q1,fun ρ1 H1 e1 s1=>?_⟩
 cases x with
 | true=>exact zex ⟨ρ1,l,S1,f,l',S',s1,ro.mono e1,hm,fun ρ2 H2 σ2 e2 s2 r2=>p ρ2 H2 σ2 (e1.trans e2) s2 r2⟩
 | false=>exact zew ⟨ρ1,l,S1,f,l',S',s1,ro.mono e1,hm,fun ρ2 H2 σ2 e2 s2 r2=>p ρ2 H2 σ2 (e1.trans e2) s2 r2⟩
noncomputable def zpy:SM:=fun _ _=>none
theorem zyy:PS3 X st zpy:=PS.imp zvz fun E σ H hx10_=>by obtain ⟨ρ,l,S,f,l',S',sim,ro,hm,p⟩:=hx10_;cases hm
variable {tgt o i:Expr}{g:GM}{gs:GsM}{ts':List Expr}{mo mi:EM}
theorem za5 (j:Nat) {x:Str}(hN:X.N.Nodup) (hi:X.N[j]? = some x:=by rfl) (hx:Loc X.env.scope x:=by first|exact Or.inl rfl|exact Or.inr rfl) (hf:X.fn x=true∨X.env.scope.names.lookup x=some .local:=by first|exact .inl rfl|exact .inr rfl|assumption):PG3 X (.Name x pos) (zal j) :=
 PG.imp (zv0 hN hi hx hf) fun v σ H Q hx11_=>by
  obtain ⟨ρ,l,S,d,l',S',sim,ro,rd,hm,p⟩:=hx11_
  cases hm
  exact p ρ H _ (Ext.refl ..) sim (ro.set j rd)
theorem zdi:zji X [] zcr:=PGs.imp zv3 fun v σ H Q hx12_=>by
 obtain ⟨ρ,l,S,d,l',S',sim,ro,rd,hm,p⟩:=hx12_
 cases rd with
 | nil=>cases hm;exact ⟨rfl,p ρ H _ (Ext.refl ..) sim ro⟩
 | cons _ _=>cases hm
theorem zbu (h1:PG3 X tgt g) (h2:zji X ts' gs) (hs:(assignEach (tgt :: ts') X.env).map (·.2)=assign tgt X.env :: (assignEach ts' X.env).map (·.2):=by rfl):zji X (tgt :: ts') (zbf g gs):=PGs.imp (zv4 h1 h2 hs) fun v σ H Q hx13_=>by
 obtain ⟨ρ,l,S,d,l',S',sim,ro,rd,hm,p⟩:=hx13_
 cases rd with
 | nil=>cases hm
 | @cons x v' xs vs r1 r2 =>
  obtain ⟨⟨l1,S1⟩,q1,hm⟩:=bnd hm
  exact ⟨v',vs,rfl,ρ,l,S,x,l1,S1,sim,ro,r1,q1,fun ρ1 H1 σ1 e1 s1 ro1=>⟨ρ1,l1,S1,xs,l',S',s1,ro1,r2.mono e1,hm,fun ρ2 H2 σ2 e2 s2 ro2=>p ρ2 H2 σ2 (e1.trans e2) s2 ro2⟩⟩
theorem zdj {es:List Expr}{k n:Nat}(hc:X.calm=true) (h:zji X es gs) (hn:(assignEach es X.env).length=n:=by rfl) (hst:(assignEach es X.env).findIdx? (·.1)=none:=by rfl):PG3 X (.Tuple es k pos) (zcs n gs) :=
 PG.imp (zv6 hc h hn hst) fun v σ H Q hx14_=>by
  obtain ⟨ρ,l,S,d,l',S',sim,ro,rd,hm,p⟩:=hx14_
  cases rd with
  | @tup xs a vs ha r =>
   have hm:(if xs.length=n then gs xs l S else none)=some (l',S'):=hm
   by_cases hl:xs.length=n
   ·rw [if_pos hl] at hm
    exact ⟨a,vs,rfl,SqT.of ha,by rw [←r.length];exact hl,ρ,l,S,xs,l',S',sim,ro,r,hm,p⟩
   ·rw [if_neg hl] at hm;cases hm
  | _=>cases hm
theorem zyz {K:QFg}{ρ:List Addr}{S S':Sto}{H:Hp}{x y z:D}{x' y' z':V}{Q:Hp->Prop}(sim:Sim K ρ S H) (rx:RD ρ H x x') (ry:RD ρ H y y') (rz:RD ρ H z z') (h:zdr x y z S=some S') (q:∀H',Ext ρ H ρ H'->Sim K ρ S' H'->Q H'):zo6 x' y' z' H Q:=by
 unfold zdr at h
 split at h
 ·split at h
  ·rename_i hx
   obtain ⟨j,hj,h⟩:=bnd h
   cases h
   cases ry
   obtain ⟨a,us,ha',hH,r3⟩:=sim.lst hx
   cases rx with
   | ref hn =>
    rw [ha'] at hn;cases hn
    exact ⟨a,us,_,j,rfl,rfl,hH,by rw [←r3.length];exact hj,q _ (zjh ha' hH) (sim.set ha' hx hH (r3.set rz j))⟩
  ·cases h
 ·cases h
theorem zju (ho:PE3 X o mo) (hi:PE3 X i mi)
  (ha:∀v,assign (.Subscript o i pos) X.env v=(do
   let ov ←holding [v] (eval o X.env)
   let iv ←holding [v,ov] (eval i X.env)
   standAt pos
   holding [v,ov,iv] (setItem ov iv v)
   release [v,ov,iv] []):=by intro _;rfl):PG3 X (.Subscript o i pos) (zgn mo mi) :=
 PG.imp (zv8 ho hi zxv ha) fun v σ H Q hx15_=>by
  obtain ⟨ρ,l,S,d,l',S',sim,ro,rd,hm,p⟩:=hx15_
  obtain ⟨⟨x,S1⟩,q1,hm⟩:=bnd hm
  obtain ⟨⟨y,S2⟩,q2,hm⟩:=bnd hm
  obtain ⟨S3,q3,hm⟩:=bnd hm
  cases hm
  exact ⟨ρ,l,S,x,S1,sim,ro,q1,fun ρ1 H1 x' e1 s1 r1=>⟨ρ1,l,S1,y,S2,s1,ro.mono e1,q2,fun ρ2 H2 y' e2 s2 r2=>zyz s2 (r1.mono e2) r2 (rd.mono (e1.trans e2)) q3 fun H3 e3 s3=>p ρ2 H3 σ (e1.trans (e2.trans e3)) s3 (ro.mono (e1.trans (e2.trans e3)))⟩⟩
theorem zds (he:PE3 X e me) (hg:PG3 X tgt g) (hs:swapsWithSole [tgt] e pos.line X.env=pure false:=by rfl) (hw:swappedStores [tgt] e X.env=pure none:=by rfl)
  (h1:(assignEach [tgt] X.env).map (·.2)=[assign tgt X.env]:=by rfl):PS3 X (.Assign [tgt] e pos) (zap me g):=PS.imp (zv9 he hg hs hw h1) fun E σ H hx16_=>by
 obtain ⟨ρ,l,S,f,l',S',sim,ro,hm,p⟩:=hx16_
 obtain ⟨⟨x,S1⟩,q1,hm⟩:=bnd hm
 obtain ⟨⟨l2,S2⟩,q2,hm⟩:=bnd hm
 cases hm
 exact ⟨ρ,l,S,x,S1,sim,ro,q1,fun ρ1 H1 x' e1 s1 r1=>⟨ρ1,l,S1,x,_,_,s1,ro.mono e1,r1,q2,fun ρ2 H2 σ2 e2 s2 r2=>p ρ2 H2 σ2 (e1.trans e2) s2 r2⟩⟩
theorem zaq (j:Nat) {x:Str}{pos':Pos}(hN:X.N.Nodup) (he:PE3 X e me) (hi:X.N[j]? = some x:=by rfl) (hx:Loc X.env.scope x:=by first|exact Or.inl rfl|exact Or.inr rfl) (hs:swapsWith e (some (.Name x pos')) pos.line X.env=pure false:=by rfl) (hf:X.fn x=true∨X.env.scope.names.lookup x=some .local:=by first|exact .inl rfl|exact .inr rfl|assumption) :
  PS3 X (.Assign [.Name x pos'] e pos) (zap me (zal j)):=PS.imp (zwa hN hi hx he hs hf) fun E σ H hx17_=>by
 obtain ⟨ρ,l,S,f,l',S',sim,ro,hm,p⟩:=hx17_
 obtain ⟨⟨x,S1⟩,q1,hm⟩:=bnd hm
 cases hm
 exact ⟨ρ,l,S,x,_,sim,ro,q1,fun ρ1 H1 x' e1 s1 r1=>p ρ1 H1 _ e1 s1 ((ro.mono e1).set j r1)⟩
end
noncomputable def zby (g:GM) (b:SM):List D->SM
 | [],l,S=>some (.nx,l,S)
 | x :: xs,l,S=>(g x l S).bind fun p=>(b p.1 p.2).bind fun q=>match q.1 with
  | .nx=>zby g b xs q.2.1 q.2.2
  | .ct=>zby g b xs q.2.1 q.2.2
  | .bk=>some (.nx,q.2)
  | .rt d=>some (.rt d,q.2)
noncomputable def zf2 (g:GM) (b:SM) (n:Nat):Nat->Nat->SM
 | 0,_,_,_=>none
 | k+1,i,l,S=>(lstOf S n).bind fun xs=>match xs[i]? with
  | none=>some (.nx,l,S)
  | some x=>(g x l S).bind fun p=>(b p.1 p.2).bind fun q=>match q.1 with
   | .nx=>zf2 g b n k (i+1) q.2.1 q.2.2
   | .ct=>zf2 g b n k (i+1) q.2.1 q.2.2
   | .bk=>some (.nx,q.2)
   | .rt d=>some (.rt d,q.2)
noncomputable def zgo (e:EM) (g:GM) (b:SM):SM:=fun l S=>(e l S).bind fun p=>match p.1 with
 | .tup xs=>zby g b xs l p.2
 | .ref n=>(lstOf p.2 n).bind fun xs=>zf2 g b n (xs.length+1) 0 l p.2
 | _=>none
noncomputable def zbm (lo:Int) (n:Nat):List D:=(List.range n).map fun (i:Nat)=>.int (lo+i)
noncomputable def zb3 (as:AM):Lo->Sto->Option ((Int × Nat) × Sto):=fun l S=>(as l S).bind fun p=>match p.1 with
 | [.int j]=>if -(2 ^ 62)<=j/\j<2 ^ 62 then some ((0,j.toNat),p.2) else none
 | _=>none
noncomputable def zil (as:AM):Lo->Sto->Option ((Int × Nat) × Sto):=fun l S=>(as l S).bind fun p=>match p.1 with
 | [.int i,.int j]=>if -(2 ^ 62)<=i/\i<2 ^ 62/\-(2 ^ 62)<=j/\j<2 ^ 62 then some ((i,(j-i).toNat),p.2) else none
 | _=>none
noncomputable def zdk (r:Lo->Sto->Option ((Int × Nat) × Sto)) (g:GM) (b:SM):SM:=fun l S=>(r l S).bind fun p=>zby g b (zbm p.1.1 p.1.2) l p.2
section
variable {K:QFg}{g:GM}{b:SM}{E:Ends}
theorem zlr {next:SM}{x:D}{v:V}{ρ:List Addr}{l:Lo}{S:Sto}{H:Hp}{σ:St}{f:Fl}{l':Lo}{S':Sto}(sim:Sim K ρ S H) (ro:RO ρ H l σ) (rx:RD ρ H x v)
  (hm:((g x l S).bind fun p=>(b p.1 p.2).bind fun q=>match q.1 with
   | .nx=>next q.2.1 q.2.2
   | .ct=>next q.2.1 q.2.2
   | .bk=>some (.nx,q.2)
   | .rt d=>some (.rt d,q.2))=some (f,l',S')) (p:∀ρ' H' σ',Ext ρ H ρ' H'->Sim K ρ' S' H'->RO ρ' H' l' σ'->zif ρ' H' E σ' f)
  {N:St->Hp->Prop} (hN:∀ρ1 H1 σ1 l1 S1,Ext ρ H ρ1 H1->Sim K ρ1 S1 H1->RO ρ1 H1 l1 σ1->next l1 S1=some (f,l',S')->N σ1 H1) :
  tg K g v σ H fun σ2 H2=>ts K b { E with nx:=N,ct:=N,bk:=E.nx } σ2 H2:=by
 obtain ⟨⟨l1,S1⟩,q1,hm⟩:=bnd hm
 obtain ⟨⟨fl,l2,S2⟩,q2,hm⟩:=bnd hm
 refine ⟨ρ,l,S,x,l1,S1,sim,ro,rx,q1,fun ρ1 H1 σ1 e1 s1 r1=>⟨ρ1,l1,S1,fl,l2,S2,s1,r1,q2,fun ρ2 H2 σ2 e2 s2 r2=>?_⟩⟩
 cases fl with
 | nx=>exact hN ρ2 H2 σ2 l2 S2 (e1.trans e2) s2 r2 hm
 | ct=>exact hN ρ2 H2 σ2 l2 S2 (e1.trans e2) s2 r2 hm
 | bk=>cases hm;exact p ρ2 H2 σ2 (e1.trans e2) s2 r2
 | rt d=>cases hm;exact p ρ2 H2 σ2 (e1.trans e2) s2 r2
end
section
variable {X:Cx}{tgt iter:Expr}{body:List Stmt}{g:GM}{b:SM}{m:EM}{pos:Pos}
theorem zls {K:QFg}{J:It}{vs:List V}{xs:List D}{ρ:List Addr}{l:Lo}{S:Sto}{H:Hp}{σ:St}{f:Fl}{l':Lo}{S':Sto}{E:Ends}(R:List Addr->Hp->Prop) (hR:∀ρ H ρ' H',Ext ρ H ρ' H'->R ρ H->R ρ' H')
  (hgo:∀(i:Nat) ρ H v,R ρ H->vs[i]? = some v->J.go i H) (hy:∀(i:Nat) ρ H v H',R ρ H->i<vs.length->J.yld i H v H'->H' = H/\vs[i]? = some v) (hst:∀ρ H,R ρ H->J.stop vs.length H)
  (hv:∀ρ H,R ρ H->RDs ρ H xs vs) (r0:R ρ H)
  (sim:Sim K ρ S H) (ro:RO ρ H l σ) (hm:zby g b xs l S=some (f,l',S')) (p:∀ρ' H' σ',Ext ρ H ρ' H'->Sim K ρ' S' H'->RO ρ' H' l' σ'->zif ρ' H' E σ' f) :
  ∃W:Nat->Nat->St->Hp->Prop,(∃m,W 0 m σ H)/\∀i m σ H,W i m σ H ->
   (J.stop i H/\E.nx σ H)∨(J.go i H/\∃N:St->Hp->Prop,(∀σ' H',N σ' H'->∃m',m' < m/\W (i+1) m' σ' H')/\∀x H',J.yld i H x H'->tg K g x σ H' fun σ2 H2=>ts K b { E with nx:=N,ct:=N,bk:=E.nx } σ2 H2):=by
 refine ⟨fun i m σ1 H1=>m=xs.length-i/\i<=xs.length/\∃ρ1 l1 S1,Ext ρ H ρ1 H1/\Sim K ρ1 S1 H1/\RO ρ1 H1 l1 σ1/\zby g b (xs.drop i) l1 S1=some (f,l',S'),⟨xs.length,by simp,Nat.zero_le _,ρ,l,S,Ext.refl ..,sim,ro,hm⟩,?_⟩
 rintro i m σ1 H1 ⟨rfl,hi,ρ1,l1,S1,e1,s1,ro1,hm1⟩
 have R1:=hR _ _ _ _ e1 r0
 have hlen:=(hv _ _ r0).length
 by_cases hlt:i<xs.length
 ·have hx:xs[i]? = some xs[i]:=qge hlt
  obtain ⟨v,hvi,rv⟩:=(hv _ _ R1).get hx
  rw [List.drop_eq_getElem_cons hlt] at hm1
  refine .inr ⟨hgo i ρ1 H1 v R1 hvi,_,fun σ' H' h=>h,fun y H' hyl=>?_⟩
  obtain ⟨e,hy2⟩:=hy i ρ1 H1 y H' R1 (by omega) hyl
  subst e
  rw [hvi] at hy2;cases hy2
  refine zlr (next:=zby g b (xs.drop (i+1))) s1 ro1 rv hm1 (fun ρ' H' σ' e'=>p ρ' H' σ' (e1.trans e')) fun ρ2 H2 σ2 l2 S2 e2 s2 ro2 hm2=>?_
  exact ⟨xs.length-(i+1),by omega,rfl,hlt,ρ2,l2,S2,e1.trans e2,s2,ro2,hm2⟩
 ·have hil:i=xs.length:=by omega
  subst hil
  rw [List.drop_length] at hm1
  cases hm1
  exact .inl ⟨by rw [hlen];exact hst _ _ R1,p ρ1 H1 σ1 e1 s1 ro1⟩
theorem zlt (ρ:List Addr) (H:Hp) (lo:Int) (n:Nat):RDs ρ H (zbm lo n) ((List.range n).map fun (i:Nat)=>V.int (lo+i)):=by
 unfold zbm
 generalize List.range n=l
 induction l with
 | nil=>exact .nil
 | cons a r ih=>exact .cons (.int _) ih
theorem zpz {lo:Int}{n i:Nat}{v:V}(h:i<n) (hv:v=.int (lo+i)):((List.range n).map fun (i:Nat)=>V.int (lo+i))[i]? = some v:=by
 rw [qgm,List.getElem?_range h,hv];rfl
theorem PI.or {wi wj:TI}(h:PI X tgt iter wi) (h':PI X tgt iter wj):PI X tgt iter (fun σ H R=>wi σ H R∨wj σ H R):=by
 intro pins s σ H R I q
 rcases q with q|q
 ·exact h pins s σ H R I q
 ·exact h' pins s σ H R I q
theorem zy0 {K:QFg}{n:Nat}{a:Addr}{ρ:List Addr}{l:Lo}{S:Sto}{H:Hp}{σ:St}{f:Fl}{l':Lo}{S':Sto}{E:Ends}{k:Nat}(ha:ρ[n]? = some a)
  (sim:Sim K ρ S H) (ro:RO ρ H l σ) (hm:zf2 g b n k 0 l S=some (f,l',S')) (p:∀ρ' H' σ',Ext ρ H ρ' H'->Sim K ρ' S' H'->RO ρ' H' l' σ'->zif ρ' H' E σ' f) :
  ∃W:Nat->Nat->St->Hp->Prop,(∃m,W 0 m σ H)/\∀i m σ H,W i m σ H ->
   ((Itl K a).stop i H/\E.nx σ H)∨((Itl K a).go i H/\∃N:St->Hp->Prop,(∀σ' H',N σ' H'->∃m',m' < m/\W (i+1) m' σ' H')/\∀x H',(Itl K a).yld i H x H'->tg K g x σ H' fun σ2 H2=>ts K b { E with nx:=N,ct:=N,bk:=E.nx } σ2 H2):=by
 refine ⟨fun i m σ1 H1=>∃ρ1 l1 S1,Ext ρ H ρ1 H1/\Sim K ρ1 S1 H1/\RO ρ1 H1 l1 σ1/\zf2 g b n m i l1 S1=some (f,l',S'),⟨k,ρ,l,S,Ext.refl ..,sim,ro,hm⟩,?_⟩
 rintro i m σ1 H1 ⟨ρ1,l1,S1,e1,s1,ro1,hm1⟩
 cases m with
 | zero=>cases hm1
 | succ m =>
  have ha1:=e1.pre n a ha
  unfold zf2 at hm1
  obtain ⟨xs,hx,hm1⟩:=bnd hm1
  obtain ⟨a',vs,ha',sq,rv⟩:=s1.lstOf hx
  rw [ha1] at ha';cases ha'
  cases hi:xs[i]? with
  | none =>
   rw [hi] at hm1
   cases hm1
   have hl:xs.length<=i:=List.getElem?_eq_none_iff.mp hi
   exact .inl ⟨⟨vs,sq,by rw [←rv.length];exact hl⟩,p ρ1 H1 σ1 e1 s1 ro1⟩
  | some x =>
   rw [hi] at hm1
   obtain ⟨v,hvi,r⟩:=rv.get hi
   refine .inr ⟨⟨vs,v,sq,hvi⟩,_,fun σ' H' h=>h,fun y H' hyl=>?_⟩
   obtain ⟨e,hy2⟩:=hyl
   subst e
   have hy3:=hy2 vs sq
   rw [hvi] at hy3;cases hy3
   refine zlr (next:=zf2 g b n m (i+1)) s1 ro1 r hm1 (fun ρ' H' σ' e'=>p ρ' H' σ' (e1.trans e')) fun ρ2 H2 σ2 l2 S2 e2 s2 ro2 hm2=>?_
   exact ⟨m,Nat.lt_succ_self m,ρ2,l2,S2,e1.trans e2,s2,ro2,hm2⟩
theorem zlu (hp:PassesOwn (model X.prog X.w) X.A X.env X.xe) (hc:X.calm=true) (hi:PE3 X iter m) (hg:PG3 X tgt g) (hb:zc3 X body b)
  (hs:∀x,foldedSetIterable iter X.env x=pure x:=by intro _;rfl):PS3 X (.For tgt iter body [] pos) (zgo m g b) :=
 PS.imp (zjc hp hc (PI.or (zn9 hi) (zoa hi)) hg hb hs) fun E σ H hx18_=>by
  obtain ⟨ρ,l,S,f,l',S',sim,ro,hm,p⟩:=hx18_
  obtain ⟨⟨x,S1⟩,q1,hm⟩:=bnd hm
  dsimp only at hm
  split at hm
  ·rename_i xs
   refine .inr ⟨ρ,l,S,.tup xs,S1,sim,ro,q1,fun ρ1 H1 x' e1 s1 r1=>?_⟩
   cases r1 with
   | @tup xs a vs ha r =>
    refine ⟨a,rfl,⟨vs,SqT.of ha⟩,zls (vs:=vs) (fun ρ' H'=>H' a=some (.tup vs)/\RDs ρ' H' xs vs) (fun ρ H ρ' H' e ⟨h1,h2⟩=>⟨e.tup _ _ h1,h2.mono e⟩)
     (fun i ρ H v ⟨h1,_⟩ hv=>⟨vs,v,SqT.of h1,hv⟩) (fun i ρ H v H' ⟨h1,_⟩ _ hy=>⟨hy.1,hy.2 vs (SqT.of h1)⟩) (fun ρ H ⟨h1,_⟩=>⟨vs,SqT.of h1,qlr _⟩) (fun ρ H h=>h.2) ⟨ha,r⟩ s1 (ro.mono e1) hm fun ρ' H' σ' e'=>p ρ' H' σ' (e1.trans e')⟩
  ·rename_i n
   obtain ⟨xs,hx,hm⟩:=bnd hm
   refine .inl ⟨ρ,l,S,.ref n,S1,sim,ro,q1,fun ρ1 H1 x' e1 s1 r1=>?_⟩
   obtain ⟨a,vs,ha,sq,rv⟩:=s1.lstOf hx
   cases r1 with
   | ref hn =>
    rw [ha] at hn;cases hn
    exact ⟨a,rfl,⟨vs,sq⟩,zy0 ha s1 (ro.mono e1) hm (fun ρ' H' σ' e'=>p ρ' H' σ' (e1.trans e'))⟩
  ·cases hm
theorem zjv {a:Expr}{mA:AM}{p0 pos':Pos}(hp:PassesOwn (model X.prog X.w) X.A X.env X.xe) (hc:X.calm=true) (hgl:Gl X "range") (hmg:X.mg "range" = none) (ha:PA3 X [a] mA) (hg:PG3 X tgt g) (hb:zc3 X body b)
  (hs:∀x,foldedSetIterable (.Call (.Name "range" p0) [a] [] pos') X.env x=pure x:=by intro _;rfl) (hst:starEach [a] X.env=[(false,eval a X.env)]:=by rfl):PS3 X (.For tgt (.Call (.Name "range" p0) [a] [] pos') body [] pos) (zdk (zb3 mA) g b) :=
 PS.imp (zjc hp hc (zoc hgl hmg ha hst) hg hb hs) fun E σ H hx19_=>by
  obtain ⟨ρ,l,S,f,l',S',sim,ro,hm,p⟩:=hx19_
  obtain ⟨⟨⟨lo,n⟩,S1⟩,q1,hm⟩:=bnd hm
  obtain ⟨⟨xs,S2⟩,q2,q1⟩:=bnd q1
  dsimp only at q1 hm
  split at q1
  ·rename_i j
   obtain ⟨hz,e⟩:=zbk q1
   cases e
   refine ⟨ρ,l,S,[.int j],S1,sim,ro,q2,fun ρ1 H1 vs e1 s1 r1=>?_⟩
   obtain ⟨v,rfl,rv⟩:=r1.one
   cases rv
   refine ⟨j,rfl,hz.1,hz.2,zls (vs:=(List.range j.toNat).map fun (i:Nat)=>V.int (0+i)) (fun _ _=>True) (fun _ _ _ _ _ h=>h) (fun i ρ H v _ hv=>?_) (fun i ρ H v H' _ hl hy=>⟨hy.1,?_⟩) (fun ρ H _=>?_) (fun ρ H _=>zlt ρ H 0 j.toNat) trivial s1 (ro.mono e1) hm fun ρ' H' σ' e'=>p ρ' H' σ' (e1.trans e')⟩
   ·have:=(qme hv).1
    simp at this
    show i<j.toNat
    omega
   ·obtain ⟨_,hy⟩:=hy
    exact zpz (by simpa using hl) hy
   ·show j.toNat<=_
    simp
  ·cases q1
theorem zy1 {a a2:Expr}{mA:AM}{p0 pos':Pos}(hp:PassesOwn (model X.prog X.w) X.A X.env X.xe) (hc:X.calm=true) (hgl:Gl X "range") (hmg:X.mg "range" = none) (ha:PA3 X [a,a2] mA) (hg:PG3 X tgt g) (hb:zc3 X body b)
  (hs:∀x,foldedSetIterable (.Call (.Name "range" p0) [a,a2] [] pos') X.env x=pure x:=by intro _;rfl) (hst:starEach [a,a2] X.env=[(false,eval a X.env),(false,eval a2 X.env)]:=by rfl) (hst2:starEach [a2] X.env=[(false,eval a2 X.env)]:=by rfl):PS3 X (.For tgt (.Call (.Name "range" p0) [a,a2] [] pos') body [] pos) (zdk (zil mA) g b) :=
 PS.imp (zjc hp hc (zwn hgl hmg ha hst hst2) hg hb hs) fun E σ H hx20_=>by
  obtain ⟨ρ,l,S,f,l',S',sim,ro,hm,p⟩:=hx20_
  obtain ⟨⟨⟨lo,n⟩,S1⟩,q1,hm⟩:=bnd hm
  obtain ⟨⟨xs,S2⟩,q2,q1⟩:=bnd q1
  dsimp only at q1 hm
  split at q1
  ·rename_i i0 j
   obtain ⟨hz,e⟩:=zbk q1
   cases e
   refine ⟨ρ,l,S,[.int lo,.int j],S1,sim,ro,q2,fun ρ1 H1 vs e1 s1 r1=>?_⟩
   obtain ⟨v,u,rfl,rv,ru⟩:=r1.two
   cases rv;cases ru
   refine ⟨lo,j,rfl,hz,zls (vs:=(List.range (j-lo).toNat).map fun (i:Nat)=>V.int (lo+i)) (fun _ _=>True) (fun _ _ _ _ _ h=>h) (fun i ρ H v _ hv=>?_) (fun i ρ H v H' _ hl hy=>⟨hy.1,?_⟩) (fun ρ H _=>?_) (fun ρ H _=>zlt ρ H lo (j-lo).toNat) trivial s1 (ro.mono e1) hm fun ρ' H' σ' e'=>p ρ' H' σ' (e1.trans e')⟩
   ·have:=(qme hv).1
    simp at this
    show i<(j-lo).toNat
    omega
   ·obtain ⟨_,hy⟩:=hy
    exact zpz (by simpa using hl) hy
   ·show (j-lo).toNat<=_
    simp
  ·cases q1
end
noncomputable def zbs (n:Nat) (b:SM):FM:=fun ds S=>(b (ds.map some++List.replicate (n-ds.length) none) S).bind fun p=>match p.1 with
 | .rt d=>some (d,p.2.2)
 | .nx=>some (.non,p.2.2)
 | _=>none
theorem RDs.locals {ρ:List Addr}{H:Hp}{ds:List D}{vs:List V}(r:RDs ρ H ds vs) (N:List Str):RO ρ H (ds.map some++List.replicate (N.length-ds.length) none) (L2.start N vs):=by
 unfold L2.start
 rw [←r.length]
 refine ⟨by simp [r.length],fun i d h=>?_⟩
 by_cases hl:i<ds.length
 ·rw [List.getElem?_append_left (by simpa using hl),qgm] at h
  cases e:ds[i]? with
  | none=>rw [e] at h;cases h
  | some d' =>
   rw [e] at h
   have h':some (some d')=some (some d):=h
   cases h'
   obtain ⟨v,h1,h2⟩:=r.get e
   exact ⟨v,by rw [List.getElem?_append_left (by rw [qlm,←r.length];exact hl),qgm,h1];rfl,h2⟩
 ·rw [List.getElem?_append_right (by simpa using hl),List.getElem?_replicate] at h
  split at h
  ·cases h
  ·cases h
theorem zp0 {P:Program}{w:World}{K:QFg}{mg:Str->Option Value}{base:Heap}{x qual:Str}{st:Stmt}{f:Addr}{fd:FuncData}{N ps:List Str}{k n:Nat}{b:SM}(F:Fun K x qual st f fd) (S:FnScope N ps (zau st)) (hn:ps.length=n)
  (hbody:∀(cdv:Value),PySem.W.codeIn K cdv qual=true->∀(A:Around) (outer:List Env) (s:Shared) (H:Hp) (E:XK),Room k (A.deeper (envOfC qual (zau st) s.heap.objs.size f cdv)) ->
   zc3 (zgi CX0 P w K mg base N qual (zau st) f cdv A outer s H E).nox (zbi st) b):FnOk P w K mg base CX0 (k+1) f fd ps (sp3 K n (zbs N.length b)):=by
 obtain ⟨oc,od,kV,doc,pm,an,cdv,ct,osl,rfl,lk,hcd⟩:=F.ex
 refine zxc lk hcd S (fun vs H Q E h=>by rw [h.1,hn]) fun A outer s H vs Q E hr h=>?_
 obtain ⟨hl,ρ,ds,S0,v,S',sim,rd,hm,p⟩:=h
 refine ⟨_,PSs.nox (hbody cdv hcd A outer s H E hr),?_⟩
 obtain ⟨⟨fl,l',S1⟩,q,hm⟩:=bnd hm
 refine ⟨ρ,_,S0,fl,l',S1,sim,rd.locals N,q,fun ρ' H' σ' e' s' r'=>?_⟩
 cases fl with
 | nx=>cases hm;exact p ρ' H' _ e' s' .non
 | rt d=>cases hm;exact fun v' rv=>p ρ' H' v' e' s' rv
 | bk=>cases hm
 | ct=>cases hm
noncomputable def zc9 (env:Env):List (Str × NameKind)->List (Str × Addr)->List (Str × Addr)
 | [],cs=>cs
 | (n,k) :: r,cs=>if k == .free then (match env.cells.lookup n with|some c=>zc9 env r ((n,c) :: cs)|none=>zc9 env r cs) else zc9 env r cs
theorem zp6 (env:Env):∀(names:List (Str × NameKind)) (cs:List (Str × Addr)),(∀x∈names,x.2=.free->∃c,env.cells.lookup x.1=some c) ->
  (forIn names cs (fun x r=>if (x.2 == NameKind.free)=true then do let c ←cellOf env x.1;pure (ForInStep.yield ((x.1,c) :: r)) else pure (ForInStep.yield r)):Sem (List (Str × Addr)))=pure (zc9 env names cs)
 | [],cs,_=>rfl
 | (n,k) :: r,cs,h=>by
  have ih:=fun cs=>zp6 env r cs fun x hx=>h x (List.mem_cons_of_mem _ hx)
  rw [List.forIn_cons]
  by_cases hk:k=.free
  ·subst hk
   obtain ⟨c,hc⟩:=h (n,.free) List.mem_cons_self rfl
   simp only [beq_self_eq_true,if_true,cellOf,hc,zc9,pure_bind,bind_assoc]
   exact ih _
  ·have hb:(k == NameKind.free)=false:=by simpa using hk
   simp only [hb,Bool.false_eq_true,if_false,zc9,pure_bind]
   exact ih _
theorem zy2 (scope:Scope) (env:Env) (h:∀x∈scope.names,x.2=.free->∃c,env.cells.lookup x.1=some c):closureFor scope env=pure (zc9 env scope.names []):=by
 have e:=zp6 env scope.names [] h
 unfold closureFor
 show (forIn scope.names ([]:List (Str × Addr)) (fun (x:Str × NameKind) (r:List (Str × Addr))=>if (x.2 == NameKind.free)=true then do let c ←cellOf env x.1;pure (ForInStep.yield ((x.1,c) :: r)) else pure (ForInStep.yield r)) >>= fun cs=>pure cs)=_
 rw [e,pure_bind]
theorem zjw (env:Env):∀(names:List (Str × NameKind)) (cs:List (Str × Addr)),(∀x c,cs.lookup x=some c->env.cells.lookup x=some c)->∀x c,(zc9 env names cs).lookup x=some c->env.cells.lookup x=some c
 | [],cs,h,x,c,q=>h x c q
 | (n,k) :: r,cs,h,x,c,q=>by
  unfold zc9 at q
  split at q
  ·split at q
   ·rename_i c' e
    refine zjw env r _ (fun y d hy=>?_) x c q
    rw [List.lookup_cons] at hy
    split at hy
    ·rename_i hb
     have:y=n:=by simpa using hb
     cases hy
     rw [this];exact e
    ·exact h y d hy
   ·exact zjw env r cs h x c q
  ·exact zjw env r cs h x c q
theorem zim (env:Env):∀(names:List (Str × NameKind)) (cs:List (Str × Addr)) (x:Str),((x,NameKind.free)∈names∨∃c,cs.lookup x=some c)->(∃c,env.cells.lookup x=some c)->∃c,(zc9 env names cs).lookup x=some c
 | [],cs,x,h,_=>by
  rcases h with h|h
  ·cases h
  ·exact h
 | (n,k) :: r,cs,x,h,hx=>by
  unfold zc9
  by_cases hk:(k == NameKind.free)=true
  ·rw [if_pos hk]
   split
   ·rename_i c' e
    refine zim env r _ x ?_ hx
    by_cases hxn:x=n
    ·exact .inr ⟨c',by rw [hxn,List.lookup_cons];simp⟩
    ·rcases h with h|⟨c,h⟩
     ·rcases List.mem_cons.mp h with h|h
      ·cases h;exact absurd rfl hxn
      ·exact .inl h
     ·exact .inr ⟨c,by
       rw [List.lookup_cons]
       have:(x == n)=false:=by simpa using hxn
       rw [this];exact h⟩
   ·rename_i e
    refine zim env r _ x ?_ hx
    rcases h with h|h
    ·rcases List.mem_cons.mp h with h|h
     ·cases h
      obtain ⟨c,hc⟩:=hx
      rw [hc] at e;cases e
     ·exact .inl h
    ·exact .inr h
  ·rw [if_neg hk]
   refine zim env r _ x ?_ hx
   rcases h with h|h
   ·rcases List.mem_cons.mp h with h|h
    ·cases h;exact absurd rfl hk
    ·exact .inl h
   ·exact .inr h
noncomputable def cxC (X:Cx) (N':List Str) (scope:Scope) (C:Addr) (s:Shared) (H:Hp) (fp:List Addr) (pins:List (Addr × Obj)):Cx where
 prog:=X.prog
 w:=X.w
 K:=X.K
 mg:=X.mg
 base:=X.base
 A:=X.A
 N:=N'
 s₀:=s
 H₀:=H
 env:=compEnvC scope (zc9 X.env scope.names []) C X.env
 outer:=X.stack
 stack:=X.stack
 ex:=fp
 fn:=fun _=>false
 calm:=X.calm
 pn:=X.pn++pins
 xe:=fun _ _=>False
section
variable {prog:Program}{w:World}{A:Around}{R:Result->Shared->Prop}{s:Shared}
theorem zy3 {elt target iter:Expr}{ifs:List Expr}{scope:Scope}{pos:Pos}{it acc:Value}{env:Env}(I:Nat->Shared->Prop)
  (turn:∀n s,I n s->wpAny (model prog w) A (pyNext it) (fun r s₁=>match r with
   | none=>R (.ok .next) s₁
   | some v=>wpAny (model prog w) A (letOwnedTupleGo target it v) (fun _ s₁'=>wpAny (model prog w) A (assign target env v) (fun _ s₂ =>
     wpAny (model prog w) A (forIn ifs true fun c r=>if r=true then do let ok ←isTrue c env (eval c env);pure (ForInStep.yield ok) else pure (ForInStep.yield r)) (fun ok s₃ =>
      if ok=true then wpAny (model prog w) A (eval elt env) (fun x s₄ =>
       wpAny (model prog w) A (call (.builtin "list.append") [acc,x]) (fun _ s₅=>∃m,m<n/\I m s₅) (fun _ _=>False) s₄) (fun _ _=>False) s₃
      else ∃m,m<n/\I m s₃) (fun _ _=>False) s₂) (fun _ _=>False) s₁') (fun _ _=>False) s₁) (fun _ _=>False) s)
  (n:Nat) (h:I n s) :
  codeAny (model prog w) A (.compLoop (.ListComp elt [⟨target,iter,ifs,0⟩] scope pos) 0 it acc env) R s:=by
 refine codeAny_loop rfl I (fun n s hI=>?_) n h
 show wpAny _ A ((compTurn (.ListComp elt [⟨target,iter,ifs,0⟩] scope pos) 0 it acc env).onRaise (fun x=>do noteFrame x env;theTreesLotGoes x)) _ _ s
 refine wpAny_noted ?_
 rw [compTurn_list]
 refine wpAny_bind (wpAny_standAt (wpAny_bind (wpAny_mono (turn n s hI) (fun r s₁ h₁=>?_) fun _ _ h'=>h'.elim)))
 cases r with
 | none=>exact wpAny_pure h₁
 | some v =>
  refine wpAny_bind (wpAny_mono h₁ (fun _ s₁' h₁=>?_) fun _ _ h'=>h'.elim)
  refine wpAny_bind (wpAny_mono h₁ (fun _ s₂ h₂=>wpAny_bind (wpAny_mono h₂ (fun ok s₃ h₃=>?_) fun _ _ h'=>h'.elim)) fun _ _ h'=>h'.elim)
  cases ok with
  | false=>exact wpAny_pure ⟨rfl,h₃⟩
  | true =>
   exact wpAny_bind (wpAny_bind (wpAny_mono h₃ (fun x s₄ h₄=>wpAny_bind (wpAny_mono h₄ (fun _ s₅ h₅=>wpAny_pure (wpAny_pure ⟨rfl,h₅⟩)) fun _ _ h'=>h'.elim)) fun _ _ h'=>h'.elim))
end
noncomputable def PTs (X:Cx) (ifs:List Expr) (t:TT):Prop:=∀(pins:List (Addr × Obj)) (s:Shared) (σ:St) (H:Hp) (Q:Bool->Hp->Prop),Inv X pins σ H s->t σ H Q ->
 wpAny (model X.prog X.w) X.A (forIn ifs true fun c r=>if r=true then do let ok ←isTrue c X.env (eval c X.env);pure (ForInStep.yield ok) else pure (ForInStep.yield r)) (TP X pins σ Q) X.xe s
theorem zy4 {X:Cx}:PTs X [] (fun _ H Q=>Q true H):=fun _ _ _ H _ I h=>wpAny_tests_nil ⟨H,I,h⟩
noncomputable def zin (K:QFg) (wi:TI) (src:St->St) (g:TG) (tts:TT) (t:TE):TE:=fun σ H Q=>wi σ H fun J H1=>∀D,H1 D=none->K.lookup D=none->∃W:Nat->Nat->St->Hp->Prop,
 (∃m,W 0 m (src σ) (upd H1 D (.lst [])))/\∀i m σ' H',W i m σ' H' ->
  (J.stop i H'/\Q (.ref D) H')∨(J.go i H'/\∃N:St->Hp->Prop,(∀σ' H',N σ' H'->∃m',m' < m/\W (i+1) m' σ' H') /\
   ∀x H'',J.yld i H' x H''->g x σ' H'' fun σ2 H2=>tts σ2 H2 fun b H3=>if b=true then t σ2 H3 (fun v H4=>∃ys,H4 D=some (.lst ys)/\ys.length<sizeLine/\N σ2 (upd H4 D (.lst (ys++[v])))) else N σ2 H3)
theorem zp7 {scope:Scope}{env:Env}:∀{names:List (Str × NameKind)}{x:Str},names.lookup x=some .free ->
  ((names.map fun (n,k)=>if (k == NameKind.free && env.scope.kind == .function && env.kindOf n == some .cell) then (n,NameKind.cell) else (n,k)).lookup x=some .cell ∨
   (names.map fun (n,k)=>if (k == NameKind.free && env.scope.kind == .function && env.kindOf n == some .cell) then (n,NameKind.cell) else (n,k)).lookup x=some .free)
 | [],x,h=>by simp at h
 | (n,k) :: r,x,h=>by
  have ih:=@zp7 scope env r x
  show List.lookup x ((if (k == NameKind.free && env.scope.kind == .function && env.kindOf n == some .cell)=true then (n,NameKind.cell) else (n,k)) :: _)=_∨List.lookup x ((if (k == NameKind.free && env.scope.kind == .function && env.kindOf n == some .cell)=true then (n,NameKind.cell) else (n,k)) :: _)=_
  cases hx:x == n with
  | true =>
   simp only [List.lookup_cons,hx] at h
   cases h
   by_cases hc:(NameKind.free == NameKind.free && env.scope.kind == .function && env.kindOf n == some .cell)=true
   ·rw [if_pos hc];simp [List.lookup_cons,hx]
   ·rw [if_neg hc];simp [List.lookup_cons,hx]
  | false =>
   simp only [List.lookup_cons,hx] at h
   by_cases hc:(k == NameKind.free && env.scope.kind == .function && env.kindOf n == some .cell)=true
   ·rw [if_pos hc];simp only [List.lookup_cons,hx];exact ih h
   ·rw [if_neg hc];simp only [List.lookup_cons,hx];exact ih h
structure CompSc (X:Cx) (N':List Str) (scope:Scope) (src:St->St):Prop where
 kind:scope.kind=.function
 nocell:∀y∈scope.names,y.2≠.cell
 names:∀y∈scope.names,y.2=.local->scope.names.lookup y.1=some .local
 free:∀y∈scope.names,y.2=.free->X.env.kindOf y.1=some .cell∨X.env.kindOf y.1=some .free
 rel:∀y,(relabel scope X.env).names.lookup y=some .cell∨(relabel scope X.env).names.lookup y=some .free->(y,NameKind.free)∈scope.names
 len:∀σ,(src σ).length=N'.length
 src:∀σ (i:Nat) v x,(src σ)[i]? = some (some v)->N'[i]? = some x->∃j:Nat,X.N[j]? = some x/\σ[j]? = some (some v)/\scope.names.lookup x=some .free
theorem zp8 {X:Cx}{N':List Str}{elt iter tgt:Expr}{ifs:List Expr}{scope:Scope}{pos pos':Pos}{use:Option (Value->Sem Unit)}{R:Value->Shared->Prop}{pins:List (Addr × Obj)}{s:Shared}{σ:St}{H:Hp}{Q:VK}{wi:TI}{src:St->St}{g:TG}{tts:TT}{t:TE}(hcalm:X.calm=true) (sc:CompSc X N' scope src)
  (hi:PI X tgt iter wi) (hg:∀C s H fp pins,PG (cxC X N' scope C s H fp pins) tgt g) (ht:∀C s H fp pins,PTs (cxC X N' scope C s H fp pins) ifs tts) (he:∀C s H fp pins,PE (cxC X N' scope C s H fp pins) elt t)
  (hs:∀x,foldedSetIterable iter X.env x=pure x) (I:Inv X pins σ H s) (h:zin X.K wi src g tts t σ H Q)
  (fin:∀D H5 s6 C mC,Inv X pins σ H5 s6->zdf X pins H5 C->s6.heap.Ns C mC->Q (.ref D) H5->compPost (model X.prog X.w) X.A X.xe use R (.ref D) C (.ok .next) s6) :
  wpAny (model X.prog X.w) X.A (comprehension (.ListComp elt [⟨tgt,iter,ifs,0⟩] scope pos) scope X.env pos' (newList []) false (eval iter X.env) use) R X.xe s:=by
 have hasC:∀x∈scope.names,x.2=.free->∃c,X.env.cells.lookup x.1=some c:=fun x hx hf=>I.ok.has x.1 (sc.free x hx hf)
 refine wpAny_comprehension_free (use:=use) (env:=X.env) rfl hs (zy2 scope X.env hasC) sc.kind sc.names ?_
 show wpAny (model X.prog X.w) X.A (eval iter X.env) _ _ s
 refine wpAny_mono (hi pins s σ H _ I h) (fun v s1 h1=>wpAny_mono h1 (fun itv s2 h2=>?_) fun _ _ z=>z) fun _ _ z=>z
 obtain ⟨it,fp,tn,J,H2,rfl,I2,T,st2,f2,q⟩:=h2
 refine wpAny_newObj_type ?_ (by show 0<=sizeLine;exact Nat.zero_le _)
 have hD:H2 s2.heap.objs.size=none:=I2.hok.fresh (qlr _)
 have I3:Inv X pins σ (upd H2 s2.heap.objs.size (.lst [])) { s2 with heap:=s2.heap.push { cls:=.type "list",data:=.seq ([]:List Value).toArray } }:=I2.lnew (t':=s2.toks) .nil (Nat.zero_le _)
 obtain ⟨W,⟨m0,w0⟩,turn⟩:=q s2.heap.objs.size hD (by
  cases e:X.K.lookup s2.heap.objs.size with
  | none=>rfl
  | some o=>exact absurd (Heap.lt_size (I2.kIn _ o e)) (Nat.lt_irrefl _))
 refine wpAny_newFunctionEnv sc.nocell (by intro y hy;simp at hy) (fun h' hns hsb=>?_) sc.kind
 have fpIn:∀b∈fp,∃o,s2.heap.get? b=some o/\∀v,o.data≠.cell v:=T.obj 0 s2.heap st2
 have fpD:∀b∈fp,b≠s2.heap.objs.size:=fun b hb=>let ⟨o,e,_⟩:=fpIn b hb;Nat.ne_of_lt (Heap.lt_size e)
 have f3:∀b∈fp,zdf X pins (upd H2 s2.heap.objs.size (.lst [])) b:=fun b hb=>⟨by rw [zar (fpD b hb)];exact (f2 b hb).1,(f2 b hb).2⟩
 have st3:tn 0 (s2.heap.push { cls:=.type "list",data:=.seq ([]:List Value).toArray }):=T.keep _ _ _ st2 fun b hb o e=>qps _ e
 clear q hD h st2 f2 fpD
 generalize upd H2 s2.heap.objs.size (.lst [])=H3 at *
 generalize hDe:s2.heap.objs.size=D at *
 have fpIn3:∀b∈fp,∃o,(s2.heap.push { cls:=.type "list",data:=.seq ([]:List Value).toArray }).get? b=some o/\∀v,o.data≠.cell v:=T.obj 0 _ st3
 clear fpIn
 generalize s2.heap.push { cls:=.type "list",data:=.seq ([]:List Value).toArray }=h3 at *
 have old:∀b o,h3.get? b=some o->h'.get? b=some o:=fun b o e=>hsb.extBut b o (Nat.ne_of_lt (Heap.lt_size e)) (qps _ e)
 have stkNo:∀b,b≠X.env.locals->b ∉ X.fs->b ∉ frs X.stack:=fun b h1 h2 hb=>by
  rcases List.mem_cons.mp (I3.stkSub b hb) with z|z
  ·exact h1 z
  ·exact h2 z
 have sub:=zjw X.env scope.names [] (fun x c z=>by simp at z)
 have cNe:∀b o,h3.get? b=some o->b≠h3.objs.size:=fun b o e=>Nat.ne_of_lt (Heap.lt_size e)
 have I4:Inv (cxC X N' scope h3.objs.size { s2 with heap:=h3 } H3 fp pins) [] (src σ) H3 { s2 with heap:=h',toks:=s2.toks+([]:List (Str × Value)).length }:=by
  refine ⟨⟨I3.ok.mod,sc.kind,I3.ok.glob,I3.ok.blt,qlr _,fun x y c h1 h2=>I3.ok.inj x y c (sub x c h1) (sub y c h2),fun x hx=>?_,fun x c z=>absurd (show false=true from z) Bool.false_ne_true,I3.ok.hd,I3.ok.frames,.inl rfl,fun b hb=>⟨?_,fun x c z=>(f3 b hb).2.2.2.2.1 x c (sub x c z)⟩,fun b o e=>I3.bs b o e,Nat.le_trans I3.ok.bsz I3.sz,fun b o e hb=>?_,fun b hb=>stkNo b (f3 b hb).2.1 (f3 b hb).2.2.1,I3.stack,I3.stkFree⟩,
   rfl,I3.bare,Un.kept old,⟨_,hns,fun i x v h1 h2 h3'=>?_⟩,fun x c z=>?_,I3.hok.fresh (qlr _),fun x c z=>I3.freeC x c (sub x c z),fun p hp=>?_,I3.hok.kept old,sc.len σ⟩
  ·have hm:=sc.rel x hx
   exact zim X.env scope.names [] x (.inl hm) (hasC _ hm rfl)
  ·obtain ⟨o,e,_⟩:=fpIn3 b hb
   exact cNe b o e
  ·rcases (f3 b hb).2.2.2.1 with z|z
   ·exact I3.ok.noex b o e z
   ·have:=Heap.lt_size (I3.ok.bs b o e).1
    exact absurd (Nat.lt_of_lt_of_le this z) (Nat.lt_irrefl _)
  ·obtain ⟨j,e1,e2,e3⟩:=sc.src σ i v x h2 h1
   obtain ⟨m,hn,hl⟩:=I3.loc
   have hmem:=PySem.mem_of_lookup e3
   have hk:=sc.free (x,.free) hmem rfl
   have vis:Vis X.env.scope x:=by
    rcases hk with k|k
    ·exact .inr (.inl k)
    ·exact .inr (.inr k)
   obtain ⟨u,r,lk⟩:=hl j x v e1 e2 vis
   refine ⟨u,r,.inr ⟨?_,?_⟩⟩
   ·exact zp7 (scope:=scope) e3
   ·rcases lk with ⟨k,_⟩|⟨_,c,hc,hcell⟩
    ·rcases hk with k' | k' <;> (rw [k] at k';cases k')
    ·obtain ⟨c',hc'⟩:=zim X.env scope.names [] x (.inl hmem) ⟨c,hc⟩
     have:=sub x c' hc'
     rw [hc] at this;cases this
     obtain ⟨o,ho,hd⟩:=hcell
     exact ⟨c,hc',o,old _ _ ho,hd⟩
  ·obtain ⟨v,o,ho,hd⟩:=I3.cell x c (sub x c z)
   exact ⟨v,o,old _ _ ho,hd⟩
  ·have hp':p∈X.pn++pins:=by simpa [cxC] using hp
   obtain ⟨e,n,ne,nf,d⟩:=I3.pin p hp'
   exact ⟨old _ _ e,n,cNe _ _ e,stkNo _ ne nf,d⟩
 have st4:tn 0 h':=T.keep _ _ _ st3 fun b hb o e=>old b o e
 have fr4:∀b∈fp,H3 b=none:=fun b hb=>(f3 b hb).1
 have stat:∀{H':Hp},(∀b∈fp,H' b=none)->∀b∈fp,zdf (cxC X N' scope h3.objs.size { s2 with heap:=h3 } H3 fp pins) [] H' b:=fun hn b hb=>by
  obtain ⟨g0,g1,g2,g3,g4,g5⟩:=f3 b hb
  obtain ⟨o,e,_⟩:=fpIn3 b hb
  exact ⟨hn b hb,cNe b o e,stkNo b g1 g2,.inl hb,fun x c z=>g4 x c (sub x c z),fun p hp=>g5 p (by simpa [cxC] using hp)⟩
 have loop:codeAny (model X.prog X.w) X.A (.compLoop (.ListComp elt [⟨tgt,iter,ifs,0⟩] scope pos) 0 (.ref it) (.ref D) (compEnvC scope (zc9 X.env scope.names []) h3.objs.size X.env))
   (compPost (model X.prog X.w) X.A X.xe use R (.ref D) h3.objs.size) { s2 with heap:=h',toks:=s2.toks+([]:List (Str × Value)).length }:=by
  refine zy3 (fun n s'=>∃i σ' H',Inv (cxC X N' scope h3.objs.size { s2 with heap:=h3 } H3 fp pins) [] σ' H' s'/\tn i s'.heap/\(∀b∈fp,H' b=none)/\W i n σ' H') ?_ m0 ⟨0,src σ,H3,I4,st4,fr4,w0⟩
  rintro n s5 ⟨i,σ5,H5,I5,st5,fr5,w5⟩
  rcases turn i n σ5 H5 w5 with ⟨stop,qn⟩|⟨go,N,hN,step⟩
  ·refine wpAny_mono (T.done (cxC X N' scope h3.objs.size { s2 with heap:=h3 } H3 fp pins) rfl rfl rfl hcalm i [] s5 σ5 H5 (fun _ _=>False) I5 (stat fr5) st5 stop) (fun r s6 hr=>?_) fun _ _ z=>z
   obtain ⟨hr,I6⟩:=hr
   subst hr
   obtain ⟨mC,hnC,_⟩:=I6.loc
   have IX:Inv X pins σ H5 s6:=I3.call' (s':=s6) (ch:=fp) I6.os I6.base I6.hok I6.bare fun b hb=>⟨(f3 b hb).2.2.2.1,(f3 b hb).2.1,(f3 b hb).2.2.2.2.1,(f3 b hb).2.2.2.2.2⟩
   exact fin D H5 s6 h3.objs.size mC IX (I3.fpOk (qlr _) I6.free) hnC qn
  ·refine wpAny_mono (T.item (cxC X N' scope h3.objs.size { s2 with heap:=h3 } H3 fp pins) rfl rfl rfl hcalm i [] s5 σ5 H5 (fun _ _=>False) I5 (stat fr5) st5 go) (fun r s6 hr=>?_) fun _ _ z=>z
   obtain ⟨u,hr,h6⟩:=hr
   subst hr
   refine wpAny_mono h6 (fun _ s7 h7=>?_) fun _ _ z=>z
   obtain ⟨x,H7,I7,r7,y7,st7,fr7⟩:=h7
   have I7':=I7.pinned (stat fr7) (T.obj _ _ st7)
   refine wpAny_mono (hg _ _ _ _ _ _ s7 σ5 H7 x u _ I7' r7 (step x H7 y7)) (fun _ s8 h8=>?_) fun _ _ z=>z
   obtain ⟨σ8,H8,I8,q8⟩:=h8
   have again:∀{H9:Hp} {s9:Shared},Inv (cxC X N' scope h3.objs.size { s2 with heap:=h3 } H3 fp pins) ([]++zib fp s7.heap) σ8 H9 s9->N σ8 H9->∃m,m<n/\∃i σ' H',Inv (cxC X N' scope h3.objs.size { s2 with heap:=h3 } H3 fp pins) [] σ' H' s9/\tn i s9.heap/\(∀b∈fp,H' b=none)/\W i m σ' H':=fun {H9 s9} I9 n9=>by
    obtain ⟨m',hm,w9⟩:=hN σ8 H9 n9
    refine ⟨m',hm,i+1,σ8,H9,I9.unpinned,T.keep _ _ _ st7 fun b hb o e=>(I9.pin (b,o) (List.mem_append_right _ (List.mem_append_right _ (zjb hb e)))).1,fun b hb=>?_,w9⟩
    obtain ⟨o,e,d⟩:=T.obj _ _ st7 b hb
    exact (I9.pin (b,o) (List.mem_append_right _ (List.mem_append_right _ (zjb hb e)))).2.1
   refine wpAny_mono (ht _ _ _ _ _ _ s8 σ8 H8 _ I8 q8) (fun ok s9 h9=>?_) fun _ _ z=>z
   obtain ⟨H9,I9,q9⟩:=h9
   cases ok with
   | false=>exact again I9 q9
   | true =>
    refine wpAny_mono (he _ _ _ _ _ _ s9 σ8 H9 _ I9 q9) (fun y s10 h10=>?_) fun _ _ z=>z
    obtain ⟨vy,H10,I10,r10,ys,hys,hz,nx⟩:=h10
    refine wpAny_mono (zpb (X:=cxC X N' scope h3.objs.size { s2 with heap:=h3 } H3 fp pins) _ s10 σ8 H10 (.ref D) [vy] (.ref D) [y] (fun _ H'=>N σ8 H') I10 rfl (.cons r10 .nil) ⟨D,ys,vy,rfl,rfl,hys,hz,nx⟩) (fun _ s11 h11=>?_) fun _ _ z=>z
    obtain ⟨_,H11,I11,_,n11⟩:=h11
    exact again I11 n11
 exact codeAny_compStart_list loop (T.self _ 0 _ _ _ st4 loop)
theorem zp9 {X:Cx}{N':List Str}{elt iter tgt:Expr}{ifs:List Expr}{scope:Scope}{pos:Pos}{wi:TI}{src:St->St}{g:TG}{tts:TT}{t:TE}(hcalm:X.calm=true) (sc:CompSc X N' scope src)
  (hi:PI X tgt iter wi) (hg:∀C s H fp pins,PG (cxC X N' scope C s H fp pins) tgt g) (ht:∀C s H fp pins,PTs (cxC X N' scope C s H fp pins) ifs tts) (he:∀C s H fp pins,PE (cxC X N' scope C s H fp pins) elt t)
  (hs:∀x,foldedSetIterable iter X.env x=pure x:=by intro _;rfl):PE X (.ListComp elt [⟨tgt,iter,ifs,0⟩] scope pos) (zin X.K wi src g tts t):=by
 intro pins s σ H Q I h
 rw [eval_ListComp]
 refine zp8 (use:=none) hcalm sc hi hg ht he hs I h fun D H5 s6 C mC IX fp hn q=>⟨mC,hn,fun h'' sb=>⟨.ref D,H5,?_,rfl,q⟩⟩
 exact IX.turned (t':=s6.toks) (fun b o hb e=>sb.extBut b o hb e) fp.1 fp.2.1 fp.2.2.2.1 fp.2.2.2.2.1 fp.2.2.2.2.2
theorem zy5 {X:Cx}{N':List Str}{elt iter tgt:Expr}{ifs:List Expr}{scope:Scope}{pos spos py:Pos}{wi:TI}{src:St->St}{g:TG}{tts:TT}{t:TE}{i:Nat}{y:Str}(hN:X.N.Nodup) (hi':X.N[i]? = some y) (hx:Loc X.env.scope y)
  (hsw:swapsWith (.ListComp elt [⟨tgt,iter,ifs,0⟩] scope pos) (some (.Name y py)) spos.line X.env=pure true) (hf:X.fn y=true∨X.env.scope.names.lookup y=some .local)
  (hcalm:X.calm=true) (sc:CompSc X N' scope src)
  (hi:PI X tgt iter wi) (hg:∀C s H fp pins,PG (cxC X N' scope C s H fp pins) tgt g) (ht:∀C s H fp pins,PTs (cxC X N' scope C s H fp pins) ifs tts) (he:∀C s H fp pins,PE (cxC X N' scope C s H fp pins) elt t)
  (hs:∀x,foldedSetIterable iter X.env x=pure x:=by intro _;rfl):PS X (.Assign [.Name y py] (.ListComp elt [⟨tgt,iter,ifs,0⟩] scope pos) spos) (zk5 (zin X.K wi src g tts t) (zk4 i)):=by
 intro pins s σ H D I h
 rw [exec_Assign_Name_used _ _ _ _ hsw]
 refine wpAny_bind (wpAny_standAt (wpAny_bind ?_))
 show wpAny _ X.A (do let _ ←comprehension (.ListComp elt [⟨tgt,iter,ifs,0⟩] scope pos) scope X.env _ (newList []) false (eval iter X.env) (some (assign (.Name y py) X.env))) _ _ s
 refine wpAny_bind (wpAny_mono (zp8 (use:=some (assign (.Name y py) X.env)) (R:=fun _ s'=>SP X pins D .next s') hcalm sc hi hg ht he hs I h fun D' H5 s6 C mC IX fp hn q=>?_) (fun _ s' hq=>wpAny_pure (wpAny_pure hq)) fun _ _ e=>e)
 show wpAny _ X.A (assign (.Name y py) X.env (.ref D')) _ _ s6
 refine wpAny_assign_Name (zn6 (v:=.ref D') IX hN hi' hx rfl (fun s' I' ha=>?_) hf)
 obtain ⟨a,sb,ha⟩:=ha
 have hCa:C≠a:=by
  rcases ha with ha|ha
  ·rw [ha];exact fp.2.1
  ·exact fun z=>fp.2.2.2.2.1 y a ha z.symm
 refine ⟨mC,hn.sameBut sb hCa,fun h'' sb''=>⟨_,H5,?_,q⟩⟩
 exact I'.turned (t':=s'.toks) (fun b o hb e=>sb''.extBut b o hb e) fp.1 fp.2.1 fp.2.2.2.1 fp.2.2.2.2.1 fp.2.2.2.2.2
section
variable {K:QFg}{ρ ρ':List Addr}{H H':Hp}{S:Sto}
theorem Sim.notin {a:Addr}(s:Sim K ρ S H) (h1:H a=none) (h2:K.lookup a=none):∀n:Nat,ρ[n]?≠some a:=fun n hn=>by
 have hl:n<S.length:=by rw [←s.len];exact (qme hn).1
 have q:=s.at' n a _ hn (qge hl)
 cases e:S[n] with
 | lst xs=>rw [e] at q;obtain ⟨vs,z,_⟩:=q;rw [h1] at z;cases z
 | flst xs =>
  rw [e] at q
  obtain ⟨vs,z,_⟩:=q
  rcases z with ⟨o,z⟩|⟨o,_,_,z,_⟩
  ·rw [h1] at z;cases z
  ·rw [h2] at z;cases z
 | iset g m=>rw [e] at q;have q:H a=_:=q;rw [h1] at q;cases q
 | dct kvs=>rw [e] at q;obtain ⟨vs,z,_⟩:=q;rw [h1] at z;cases z
 | tdct kvs=>rw [e] at q;obtain ⟨vs,z,_⟩:=q;rw [h1] at z;cases z
 | fdct kvs=>rw [e] at q;obtain ⟨o,vs,z,_⟩:=q;rw [h1] at z;cases z
 | ftdct kvs=>rw [e] at q;obtain ⟨o,vs,z,_⟩:=q;rw [h1] at z;cases z
 | tset ks=>rw [e] at q;obtain ⟨xs,_,z,_⟩:=q;rw [h1] at z;cases z
 | fnc x=>rw [e] at q;obtain ⟨_,o,z⟩:=q;rw [h2] at z;cases z
 | exc c=>rw [e] at q;obtain ⟨C,_,z⟩:=q;rw [h1] at z;cases z
theorem Sim.adopt {a:Addr}{xs:List D}{vs:List V}(s:Sim K ρ S H) (ha:H a=some (.lst vs)) (hn:∀n:Nat,ρ[n]?≠some a) (r:RDs ρ H xs vs):Sim K (ρ++[a]) (S++[.lst xs]) H:=by
 refine ⟨by simp [s.len],fun i j b x1 x2 h1 h2 h3 h4 m1 m2=>?_,fun n b o h1 h2=>?_⟩
 ·rcases zbd h1 with g1|⟨e1,f1⟩ <;> rcases zbd h2 with g2|⟨e2,f2⟩
  ·rcases zbd h3 with h3|⟨e3,_⟩ <;> rcases zbd h4 with h4|⟨e4,_⟩
   ·exact s.nd i j b _ _ g1 g2 h3 h4 m1 m2
   ·have:=(qme g2).1;have:=s.len;omega
   ·have:=(qme g1).1;have:=s.len;omega
   ·omega
  ·subst f2;exact absurd g1 (hn i)
  ·subst f1;exact absurd g2 (hn j)
  ·omega
 ·rcases zbd h1 with h1|⟨e1,f1⟩
  ·rcases zbd h2 with h2|⟨e2,f2⟩
   ·exact (s.at' n b o h1 h2).more ext0_push
   ·have:=(qme h1).1;have:=s.len;omega
  ·subst f1
   rcases zbd h2 with h2|⟨e2,f2⟩
   ·have:=(qme h2).1;have:=s.len;omega
   ·subst f2
    exact ⟨vs,ha,r.mono0 ext0_push⟩
theorem Sim.beside {a:Addr}{ys:List V}{u:HO}(s:Sim K ρ S H) (ha:H a=some (.lst ys)) (hn:∀n:Nat,ρ[n]?≠some a):Sim K ρ S (upd H a u) :=
 ⟨s.len,s.nd,fun n b o h1 h2=>(s.at' n b o h1 h2).written ha fun _ z=>hn n (by rw [h1,z])⟩
theorem Ext.beside {a:Addr}{ys:List V}{u:HO}{ρ0:List Addr}{H0:Hp}(e:Ext ρ0 H0 ρ H) (h0:H0 a=none) (ha:H a=some (.lst ys)):Ext ρ0 H0 ρ (upd H a u) :=
 ⟨⟨e.pre,fun b vs h=>by rw [zar (zgh (e.tup b vs h) ha (by intro z;cases z))];exact e.tup b vs h,fun b o vs h=>by rw [zar (zgh (e.frz b o vs h) ha (by intro z;cases z))];exact e.frz b o vs h⟩,fun b vs h n=>⟨by rw [zar (zbc h h0)];exact (e.out b vs h n).1,(e.out b vs h n).2⟩⟩
theorem Ext.adopt {a:Addr}{ρ0:List Addr}{H0:Hp}(e:Ext ρ0 H0 ρ H) (h0:H0 a=none):Ext ρ0 H0 (ρ++[a]) H :=
 ⟨⟨fun n b h=>(ext0_push (H:=H)).pre n b (e.pre n b h),e.tup,e.frz⟩,fun b vs h n=>⟨(e.out b vs h n).1,fun i hi=>by
  rcases zbd hi with hi|⟨_,z⟩
  ·exact (e.out b vs h n).2 i hi
  ·rw [z,h0] at h;cases h⟩⟩
end
noncomputable abbrev ItM:=Nat->Sto->Option (Option D)
noncomputable abbrev IM:=Lo->Sto->Option (ItM × Nat × Sto)
noncomputable def ze0 (K:QFg) (ρ:List Addr) (H:Hp) (it:ItM) (J:It):Prop:=∀(i:Nat) ρ' S' H',Ext ρ H ρ' H'->Sim K ρ' S' H' ->
 (it i S' = some none->J.stop i H')/\∀x,it i S' = some (some x)->J.go i H'/\∀y H'',J.yld i H' y H''->H'' = H'/\RD ρ' H' x y
inductive ti (K:QFg) (im:IM) (σ:St) (H:Hp) (R:It->Hp->Prop):Prop
 | mk (ρ:_) (l:_) (S:_) (it:_) (k:_) (S':_) (_:Sim K ρ S H) (_:RO ρ H l σ) (_:im l S=some (it,k,S')) (_:∀ρ' H' J,Ext ρ H ρ' H'->Sim K ρ' S' H'->ze0 K ρ' H' it J->R J H')
noncomputable def PI3 (X:Cx) (tgt iter:Expr) (im:IM):Prop:=PI X tgt iter (ti X.K im)
theorem PI.imp {X:Cx}{tgt iter:Expr}{t u:TI}(h:PI X tgt iter t) (i:∀σ H R,u σ H R->t σ H R):PI X tgt iter u:=fun pins s σ H Q I q=>h pins s σ H Q I (i _ _ _ q)
noncomputable def itX (xs:List D):ItM:=fun i _=>some xs[i]?
noncomputable def itL (n:Nat):ItM:=fun i S=>(lstOf S n).bind fun xs=>some xs[i]?
noncomputable def zf3 (e:EM):IM:=fun l S=>(e l S).bind fun p=>match p.1 with
 | .tup xs=>some (itX xs,xs.length+1,p.2)
 | .ref n=>(lstOf p.2 n).bind fun xs=>some (itL n,xs.length+1,p.2)
 | _=>none
noncomputable def zio (r:Lo->Sto->Option ((Int × Nat) × Sto)):IM:=fun l S=>(r l S).bind fun p=>some (itX (zbm p.1.1 p.1.2),p.1.2+1,p.2)
section
variable {K:QFg}
theorem zlv {ρ:List Addr}{H:Hp}{a:Addr}{xs:List D}{vs:List V}(ha:H a=some (.tup vs)) (r:RDs ρ H xs vs):ze0 K ρ H (itX xs) (Itt K a):=by
 intro i ρ' S' H' e s
 have ha':=SqT.of (K:=K) (e.tup _ _ ha)
 have r':=r.mono e
 refine ⟨fun h=>?_,fun x h=>?_⟩
 ·have h:xs[i]? = none:=qoi h
  exact ⟨vs,ha',by rw [←r.length];exact List.getElem?_eq_none_iff.mp h⟩
 ·have h:xs[i]? = some x:=qoi h
  obtain ⟨v,hv,rv⟩:=r'.get h
  refine ⟨⟨vs,v,ha',hv⟩,fun y H'' ⟨e1,e2⟩=>⟨e1,?_⟩⟩
  have:=e2 vs ha'
  rw [hv] at this;cases this
  exact rv
theorem zlw {ρ:List Addr}{H:Hp}{a:Addr}{n:Nat}(ha:ρ[n]? = some a):ze0 K ρ H (itL n) (Itl K a):=by
 intro i ρ' S' H' e s
 have ha':=e.pre _ _ ha
 refine ⟨fun h=>?_,fun x h=>?_⟩
 ·obtain ⟨xs,h1,h⟩:=bnd h
  have h:xs[i]? = none:=qoi h
  obtain ⟨b,vs,hb,sq,r⟩:=s.lstOf h1
  rw [ha'] at hb;cases hb
  exact ⟨vs,sq,by rw [←r.length];exact List.getElem?_eq_none_iff.mp h⟩
 ·obtain ⟨xs,h1,h⟩:=bnd h
  have h:xs[i]? = some x:=qoi h
  obtain ⟨b,vs,hb,sq,r⟩:=s.lstOf h1
  rw [ha'] at hb;cases hb
  obtain ⟨v,hv,rv⟩:=r.get h
  refine ⟨⟨vs,v,sq,hv⟩,fun y H'' ⟨e1,e2⟩=>⟨e1,?_⟩⟩
  have:=e2 vs sq
  rw [hv] at this;cases this
  exact rv
theorem zy6 {ρ:List Addr}{H:Hp}{lo:Int}{n:Nat}:ze0 K ρ H (itX (zbm lo n)) (Itr lo n):=by
 intro i ρ' S' H' e s
 refine ⟨fun h=>?_,fun x h=>?_⟩
 ·have h:(zbm lo n)[i]? = none:=qoi h
  have:=List.getElem?_eq_none_iff.mp h
  simp [zbm] at this
  exact this
 ·have h:(zbm lo n)[i]? = some x:=qoi h
  have hl:=(qme h).1
  simp only [zbm,qlm,List.length_range] at hl
  refine ⟨hl,fun y H'' ⟨e1,e2⟩=>⟨e1,?_⟩⟩
  unfold zbm at h
  rw [qgm,List.getElem?_range hl] at h
  cases h
  rw [e2]
  exact .int _
end
section
variable {X:Cx}{tgt iter:Expr}{m:EM}{mA:AM}{p0 pos':Pos}{a a2:Expr}
theorem zlx (hi:PE3 X iter m):PI3 X tgt iter (zf3 m):=PI.imp (PI.or (zn9 hi) (zoa hi)) fun σ H R hx1_=>by
 obtain ⟨ρ,l,S,it,k,S',sim,ro,hm,p⟩:=hx1_
 obtain ⟨⟨x,S1⟩,q1,hm⟩:=bnd hm
 dsimp only at hm
 split at hm
 ·rename_i xs
  cases hm
  refine .inr ⟨ρ,l,S,.tup xs,_,sim,ro,q1,fun ρ1 H1 x' e1 s1 r1=>?_⟩
  cases r1 with
  | @tup xs a vs ha r=>exact ⟨a,rfl,⟨vs,SqT.of ha⟩,p ρ1 H1 _ e1 s1 (zlv ha r)⟩
 ·rename_i n
  obtain ⟨xs,hx,hm⟩:=bnd hm
  cases hm
  refine .inl ⟨ρ,l,S,.ref n,_,sim,ro,q1,fun ρ1 H1 x' e1 s1 r1=>?_⟩
  obtain ⟨a,vs,ha,sq,rv⟩:=s1.lstOf hx
  cases r1 with
  | ref hn =>
   rw [ha] at hn;cases hn
   exact ⟨a,rfl,⟨vs,sq⟩,p ρ1 H1 _ e1 s1 (zlw ha)⟩
 ·cases hm
theorem zqa (hgl:Gl X "range") (hmg:X.mg "range" = none) (ha:PA3 X [a] mA) (hst:starEach [a] X.env=[(false,eval a X.env)]:=by rfl):PI3 X tgt (.Call (.Name "range" p0) [a] [] pos') (zio (zb3 mA)) :=
 PI.imp (zoc hgl hmg ha hst) fun σ H R hx2_=>by
  obtain ⟨ρ,l,S,it,k,S',sim,ro,hm,p⟩:=hx2_
  obtain ⟨⟨⟨lo,n⟩,S1⟩,q1,hm⟩:=bnd hm
  cases hm
  obtain ⟨⟨xs,S2⟩,q2,q1⟩:=bnd q1
  dsimp only at q1
  split at q1
  ·rename_i j
   obtain ⟨hz,e⟩:=zbk q1
   cases e
   refine ⟨ρ,l,S,[.int j],_,sim,ro,q2,fun ρ1 H1 vs e1 s1 r1=>?_⟩
   obtain ⟨v,rfl,rv⟩:=r1.one
   cases rv
   exact ⟨j,rfl,hz.1,hz.2,p ρ1 H1 _ e1 s1 zy6⟩
  ·cases q1
end
noncomputable def zc0 (it:ItM) (g:GM) (t:TM) (e:EM):Nat->Nat->Lo->Sto->Option (List D × Sto)
 | 0,_,_,_=>none
 | k+1,i,l,S=>(it i S).bind fun o=>match o with
  | none=>some ([],S)
  | some x=>(g x l S).bind fun p=>(t p.1 p.2).bind fun q=>if q.1=true then (e p.1 q.2).bind fun r=>(zc0 it g t e k (i+1) p.1 r.2).bind fun z=>some (r.1 :: z.1,z.2) else zc0 it g t e k (i+1) p.1 q.2
noncomputable def zbz {α:Type}(ixs:List (Option Nat)) (l:List (Option α)):List (Option α):=ixs.map fun o=>match o with
 | some j=>(l[j]?).join
 | none=>none
noncomputable def zct (im:IM) (ixs:List (Option Nat)) (g:GM) (t:TM) (e:EM):EM:=fun l S=>(im l S).bind fun p=>(zc0 p.1 g t e p.2.1 0 (zbz ixs l) p.2.2).bind fun z=>if z.1.length<=sizeLine then some (.ref z.2.length,z.2++[.lst z.1]) else none
noncomputable def zed:TM:=fun _ S=>some (true,S)
theorem zqb {ρ:List Addr}{H:Hp}{l:Lo}{σ:St}(ixs:List (Option Nat)) (r:RO ρ H l σ):RO ρ H (zbz ixs l) (zbz ixs σ):=by
 refine ⟨by simp [zbz],fun i d h=>?_⟩
 unfold zbz at h ⊢
 rw [qgm] at h ⊢
 cases e:ixs[i]? with
 | none=>rw [e] at h;cases h
 | some o =>
  rw [e] at h
  cases o with
  | none=>cases h
  | some j =>
   have h:((l[j]?).join:Option D)=some d:=qoi h
   cases e2:l[j]? with
   | none=>rw [e2] at h;cases h
   | some o2 =>
    rw [e2] at h
    have h:o2=some d:=h
    subst h
    obtain ⟨v,h1,h2⟩:=r.get j d e2
    exact ⟨v,by show some ((σ[j]?).join)=_;rw [h1];rfl,h2⟩
inductive CI3 (K:QFg) (it:ItM) (g:GM) (t:TM) (e:EM) (S2:Sto) (all:List D) (ρ1:List Addr) (H1:Hp) (Da:Addr) (i m:Nat) (σ':St) (H':Hp):Prop
 | mk (ρ':List Addr) (l':Lo) (S':Sto) (ds:List D) (vs:List V) (rest:List D) (_:Ext ρ1 H1 ρ' H') (_:Sim K ρ' S' H') (_:RO ρ' H' l' σ') (_:H' Da=some (.lst vs)) (_:(∀n:Nat,ρ'[n]?≠some Da)) (_:RDs ρ' H' ds vs) (_:zc0 it g t e m i l' S' = some (rest,S2)) (_:ds++rest=all)
theorem zqc {K:QFg}{im:IM}{ixs:List (Option Nat)}{g:GM}{t:TM}{e:EM}(σ:St) (H:Hp) (Q:VK) (q:te K (zct im ixs g t e) σ H Q):zin K (ti K im) (zbz ixs) (tg K g) (tt K t) (te K e) σ H Q:=by
 obtain ⟨ρ,l,S,v,S',sim,ro,hm,p⟩:=q
 obtain ⟨⟨it,k,S1⟩,q1,hm⟩:=bnd hm
 obtain ⟨⟨all,S2⟩,q2,hm⟩:=bnd hm
 obtain ⟨hz,he⟩:=zbk hm
 cases he
 refine ⟨ρ,l,S,it,k,S1,sim,ro,q1,fun ρ1 H1 J e1 s1 io D hD hK=>?_⟩
 dsimp only at q2 hz p
 refine ⟨fun i m σ' H'=>CI3 K it g t e S2 all ρ1 H1 D i m σ' H',⟨k,?_⟩,?_⟩
 ·exact ⟨ρ1,zbz ixs l,S1,[],[],all,zca hD,s1.laid hD,(zqb ixs (ro.mono e1)).mono (zca hD),zcg,s1.notin hD hK,.nil,q2,rfl⟩
 ·rintro i m σ' H' ⟨ρ',l',S',ds,vs,rest,e2,s2,ro2,hD2,hn2,rd2,hc,hall⟩
  cases m with
  | zero=>cases hc
  | succ m =>
   unfold zc0 at hc
   obtain ⟨o,ho,hc⟩:=bnd hc
   obtain ⟨iStop,iGo⟩:=io i ρ' S' H' e2 s2
   cases o with
   | none =>
    cases hc
    rw [List.append_nil] at hall
    subst hall
    refine .inl ⟨iStop ho,p (ρ'++[D]) H' (.ref D) (e1.trans (e2.adopt hD)) (s2.adopt hD2 hn2 rd2) (.ref ?_)⟩
    rw [←s2.len];exact zfx ρ' D
   | some x =>
    obtain ⟨⟨l3,S3⟩,q3,hc⟩:=bnd hc
    obtain ⟨⟨b,S4⟩,q4,hc⟩:=bnd hc
    obtain ⟨hgo,hy⟩:=iGo x ho
    refine .inr ⟨hgo,_,fun σ' H' h=>h,fun y H'' hyl=>?_⟩
    obtain ⟨rfl,ry⟩:=hy y H'' hyl
    refine ⟨ρ',l',S',x,l3,S3,s2,ro2,ry,q3,fun ρ3 H3 σ3 e3 s3 ro3=>⟨ρ3,l3,S3,b,S4,s3,ro3,q4,fun ρ4 H4 e4 s4=>?_⟩⟩
    obtain ⟨hD3,hn3⟩:=e3.out D _ hD2 hn2
    obtain ⟨hD4,hn4⟩:=e4.out D _ hD3 hn3
    cases b with
    | false=>exact zew ⟨m,Nat.lt_succ_self m,ρ4,l3,S4,ds,vs,rest,e2.trans (e3.trans e4),s4,ro3.mono e4,hD4,hn4,rd2.mono (e3.trans e4),hc,hall⟩
    | true =>
     have hc:((e l3 S4).bind fun r=>(zc0 it g t e m (i+1) l3 r.2).bind fun z=>some (r.1 :: z.1,z.2))=some (rest,S2):=hc
     obtain ⟨⟨y5,S5⟩,q5,hc⟩:=bnd hc
     obtain ⟨⟨rest',S6⟩,q6,hc⟩:=bnd hc
     cases hc
     refine zex ⟨ρ4,l3,S4,y5,S5,s4,ro3.mono e4,q5,fun ρ5 H5 v5 e5 s5 r5=>?_⟩
     obtain ⟨hD5,hn5⟩:=e5.out D _ hD4 hn4
     have e25:=e2.trans (e3.trans (e4.trans e5))
     have rd5:=rd2.mono (e3.trans (e4.trans e5))
     have hlen:vs.length<sizeLine:=by
      have h1:=rd5.length
      have h2:=congrArg List.length hall
      rw [qla,List.length_cons] at h2
      omega
     refine ⟨vs,hD5,hlen,m,Nat.lt_succ_self m,ρ5,l3,S5,ds++[y5],vs++[v5],rest',e25.beside hD hD5,s5.beside hD5 hn5,?_,zcg,hn5,((rd5.append (.cons r5 .nil)).mono0 (zg5 hD5)),q6,by rw [←hall];simp⟩
     have r0:=(ro3.mono e4).mono e5
     exact ⟨r0.len,fun i d h=>let ⟨w,h1,h2⟩:=r0.get i d h;⟨w,h1,h2.mono0 (zg5 hD5)⟩⟩
theorem zhd {X:Cx}:PTs X [] (tt X.K zed):=fun pins s σ H Q I hx4_=>by
 obtain ⟨ρ,l,S,v,S',sim,ro,hm,p⟩:=hx4_
 cases hm
 exact zy4 pins s σ H Q I (p ρ H (Ext.refl ..) sim)
theorem zly {X:Cx}{N':List Str}{elt iter tgt:Expr}{ifs:List Expr}{scope:Scope}{pos:Pos}{im:IM}{ixs:List (Option Nat)}{g:GM}{t:TM}{e:EM}(hcalm:X.calm=true) (sc:CompSc X N' scope (zbz ixs))
  (hi:PI3 X tgt iter im) (hg:∀C s H fp pins,PG3 (cxC X N' scope C s H fp pins) tgt g) (ht:∀C s H fp pins,PTs (cxC X N' scope C s H fp pins) ifs (tt X.K t)) (he:∀C s H fp pins,PE3 (cxC X N' scope C s H fp pins) elt e)
  (hs:∀x,foldedSetIterable iter X.env x=pure x:=by intro _;rfl):PE3 X (.ListComp elt [⟨tgt,iter,ifs,0⟩] scope pos) (zct im ixs g t e) :=
 PE.imp (zp9 (g:=tg X.K g) (tts:=tt X.K t) (t:=te X.K e) hcalm sc hi hg ht he hs) zqc
theorem zqd (j:Nat) {X:Cx}{N':List Str}{elt iter tgt:Expr}{ifs:List Expr}{scope:Scope}{pos spos py:Pos}{y:Str}{im:IM}{ixs:List (Option Nat)}{g:GM}{t:TM}{e:EM}(hN:X.N.Nodup) (hcalm:X.calm=true) (sc:CompSc X N' scope (zbz ixs))
  (hi:PI3 X tgt iter im) (hg:∀C s H fp pins,PG3 (cxC X N' scope C s H fp pins) tgt g) (ht:∀C s H fp pins,PTs (cxC X N' scope C s H fp pins) ifs (tt X.K t)) (he:∀C s H fp pins,PE3 (cxC X N' scope C s H fp pins) elt e)
  (hi':X.N[j]? = some y:=by rfl) (hx:Loc X.env.scope y:=by first|exact Or.inl rfl|exact Or.inr rfl)
  (hsw:swapsWith (.ListComp elt [⟨tgt,iter,ifs,0⟩] scope pos) (some (.Name y py)) spos.line X.env=pure true:=by with_unfolding_all rfl) (hf:X.fn y=true∨X.env.scope.names.lookup y=some .local:=by first|exact .inl rfl|exact .inr rfl|assumption)
  (hs:∀x,foldedSetIterable iter X.env x=pure x:=by intro _;rfl):PS3 X (.Assign [.Name y py] (.ListComp elt [⟨tgt,iter,ifs,0⟩] scope pos) spos) (zap (zct im ixs g t e) (zal j)) :=
 PS.imp (zy5 (g:=tg X.K g) (tts:=tt X.K t) (t:=te X.K e) hN hi' hx hsw hf hcalm sc hi hg ht he hs) fun E σ H hx5_=>by
  obtain ⟨ρ,l,S,f,l',S',sim,ro,hm,p⟩:=hx5_
  obtain ⟨⟨x,S1⟩,q1,hm⟩:=bnd hm
  cases hm
  exact zqc σ H _ ⟨ρ,l,S,x,S1,sim,ro,q1,fun ρ1 H1 x' e1 s1 r1=>p ρ1 H1 _ e1 s1 ((ro.mono e1).set j r1)⟩
noncomputable def zlz:D->D->Sto->Option (D × Sto)
 | .int i,.int j,S=>some (.int (i+j),S)
 | .tup xs,.tup ys,S=>if xs.length+ys.length<=sizeLine then some (.tup (xs++ys),S) else none
 | .ref n,.ref m,S=>match S[n]?,S[m]? with
  | some (.lst xs),some (.lst ys)=>if xs.length+ys.length<=sizeLine then some (.ref S.length,S++[.lst (xs++ys)]) else none
  | _,_=>none
 | _,_,_=>none
theorem zy7 {K:QFg}:Op3 K zlz (fun x y H Q=>rI0 (fun i j=>.int (i+j)) x y H Q∨(zlc K x y H Q∨zlp K x y H Q)∨zpd x y H Q):=by
 intro ρ S H x y x' y' v S' Q sim rx ry h p
 unfold zlz at h
 split at h
 ·cases rx;cases ry;cases h
  exact .inl ⟨_,_,rfl,rfl,p ρ H _ (Ext.refl ..) sim (.int _)⟩
 ·refine .inr (.inl (zyp ρ S H _ _ x' y' v S' Q sim rx ry ?_ p))
  unfold zlo
  exact h
 ·split at h
  ·rename_i xs ys e1 e2
   obtain ⟨hz,e⟩:=zbk h
   cases e
   obtain ⟨a,us,ha,hH,r2⟩:=sim.lst e1
   obtain ⟨b,ws,hb,hH2,r3⟩:=sim.lst e2
   cases rx with
   | ref hn =>
    rw [ha] at hn;cases hn
    cases ry with
    | ref hm =>
     rw [hb] at hm;cases hm
     exact .inr (.inr ⟨a,b,us,ws,rfl,rfl,hH,hH2,by rw [←r2.length,←r3.length];exact hz,zii sim (r2.append r3) p⟩)
  ·cases h
 ·cases h
section
variable {X:Cx}{a b:Expr}{ma mb:EM}{pos:Pos}
end
noncomputable def Has (P:Program) (w:World) (K:QFg) (mg:Str->Option Value) (base:Heap) (x:Str) (k n:Nat) (m:FM):Prop :=
 ∃(f:Addr) (fd:FuncData) (ps:List Str),FnOk P w K mg base CX0 k f fd ps (sp3 K n m)/\mg x=some (.ref f)/\PySem.W.keepIn K (.ref f)=true/\Binds K fd ps []
section
variable {X:Cx}{a:Expr}{es:List Expr}{mA:AM}{pos p:Pos}{x:Str}{k j n:Nat}{m:FM}
theorem zav (F:Has X.prog X.w X.K X.mg X.base x k n m) (hr:Room j X.A) (hkj:k<=j) (hg:Gl X x)
  (ha:PA3 X (a :: es) mA) (hl:∀l S v S',mA l S=some (v,S')->v.length=n) (hdb:(x == ("__debug__":Str))=false:=by decide) (he:starEach (a :: es) X.env=(false,eval a X.env) :: starEach es X.env:=by rfl) (hpl:(backTo pos (starEach es X.env)).any (·.1)=false:=by rfl) :
  PE3 X (.Call (.Name x p) (a :: es) [] pos) (zaf m mA):=by
 obtain ⟨f,fd,ps,F,hm,hk,hb⟩:=F
 exact zyw F (hr.mono hkj) hg hm hk hb ha hl hdb he hpl
theorem zy8:bootBuiltins "abs" = some (.builtin "abs"):=by decide +kernel
theorem zy9:bootBuiltins "int" = some (.type "int"):=by decide +kernel
theorem zza:bootBuiltins "tuple" = some (.type "tuple"):=by decide +kernel
theorem zzb:bootBuiltins "list" = some (.type "list"):=by decide +kernel
theorem zl0 (hg:Gl X "abs") (hm:X.mg "abs" = none) (ha:PA3 X (a :: es) mA) (he:starEach (a :: es) X.env=(false,eval a X.env) :: starEach es X.env:=by rfl) (hpl:(backTo pos (starEach es X.env)).any (·.1)=false:=by rfl):PE3 X (.Call (.Name "abs" p) (a :: es) [] pos) (zaf zgl mA) :=
 zlf zw2 zyr hg hm zy8 ha (by decide) (by decide) he hpl
theorem zhe (hg:Gl X "tuple") (hm:X.mg "tuple" = none) (ha:PA3 X (a :: es) mA) (he:starEach (a :: es) X.env=(false,eval a X.env) :: starEach es X.env:=by rfl) (hpl:(backTo pos (starEach es X.env)).any (·.1)=false:=by rfl):PE3 X (.Call (.Name "tuple" p) (a :: es) [] pos) (zaf zec mA) :=
 zpn zx4 zyt hg hm zza ha (by decide) (by decide) he hpl
end
theorem zb8 {P:Program}{w:World}{K:QFg}{mg:Str->Option Value}{base:Heap}{x:Str}{st:Stmt}{f:Addr}{fd:FuncData}{N ps:List Str}{k n:Nat}{b:SM}(F:Fun K x x st f fd) (hm:mg x=some (.ref f)) (S:FnScope N ps (zau st)) (hn:ps.length=n) (hb:Binds K fd ps [])
  (hbody:∀(cdv:Value),PySem.W.codeIn K cdv x=true->∀(A:Around) (outer:List Env) (s:Shared) (H:Hp) (E:XK),Room k (A.deeper (envOfC x (zau st) s.heap.objs.size f cdv)) ->
   zc3 (zgi CX0 P w K mg base N x (zau st) f cdv A outer s H E).nox (zbi st) b):Has P w K mg base x (k+1) n (zbs N.length b) :=
 ⟨f,fd,ps,zp0 F S hn hbody,hm,F.kp,hb⟩
noncomputable def chk (scO scope:Scope) (NO N':List Str) (ixs:List (Option Nat)):Bool :=
 decide (scope.kind=.function) && (scope.names.all fun y=>y.2 != .cell) && (scope.names.all fun y=>y.2 != .local || scope.names.lookup y.1 == some .local) &&
 (scope.names.all fun y=>y.2 != .free || (scO.names.lookup y.1 == some .cell || scO.names.lookup y.1 == some .free)) && (ixs.length == N'.length) &&
 ((List.range ixs.length).all fun i=>match ixs[i]? with|some (some j)=>(NO[j]? == N'[i]? && (match N'[i]? with|some x=>scope.names.lookup x == some .free|none=>false))|_=>true)
theorem zhf {X:Cx}{scO scope:Scope}{NO N':List Str}{ixs:List (Option Nat)}(hX:X.env.scope=scO) (hN:X.N=NO) (h:chk scO scope NO N' ixs=true):CompSc X N' scope (zbz ixs):=by
 unfold chk at h
 simp only [Bool.and_eq_true,decide_eq_true_eq,List.all_eq_true,beq_iff_eq,Bool.or_eq_true,bne_iff_ne,ne_eq] at h
 obtain ⟨⟨⟨⟨⟨h1,h2⟩,h3⟩,h4⟩,h5⟩,h6⟩:=h
 refine ⟨h1,h2,fun y hy hl=>?_,fun y hy hl=>?_,fun y hy=>?_,fun σ=>by simp [zbz,h5],fun σ i v x hv hx=>?_⟩
 ·rcases h3 y hy with z|z
  ·exact absurd hl z
  ·exact z
 ·show X.env.scope.names.lookup y.1=_∨X.env.scope.names.lookup y.1=_
  rw [hX]
  rcases h4 y hy with z|z
  ·exact absurd hl z
  ·exact z
 ·have mem:∃k,(k=NameKind.cell∨k=NameKind.free)/\(y,k)∈(relabel scope X.env).names:=by
   rcases hy with z|z
   ·exact ⟨_,.inl rfl,PySem.mem_of_lookup z⟩
   ·exact ⟨_,.inr rfl,PySem.mem_of_lookup z⟩
  obtain ⟨k,hk,hm⟩:=mem
  unfold relabel at hm
  obtain ⟨⟨n,k'⟩,hm1,hm2⟩:=List.mem_map.mp hm
  dsimp only at hm2
  split at hm2
  ·rename_i hc
   have:k' = .free:=by
    rw [Bool.and_eq_true,Bool.and_eq_true] at hc
    exact eq_of_beq hc.1.1
   cases hm2
   rw [←this];exact hm1
  ·cases hm2
   rcases hk with z|z
   ·exact absurd z (h2 _ hm1)
   ·rw [←z];exact hm1
 ·have hl:i<ixs.length:=by
   have:=(qme hv).1
   simpa [zbz] using this
  unfold zbz at hv
  rw [qgm] at hv
  have q:=h6 i (List.mem_range.mpr hl)
  cases e:ixs[i]? with
  | none=>rw [e] at hv;cases hv
  | some o =>
   rw [e] at hv
   cases o with
   | none=>cases hv
   | some j =>
    rw [e] at q
    dsimp only at q
    rw [hx] at q
    simp only [Bool.and_eq_true,beq_iff_eq] at q
    have hv:((σ[j]?).join:Option V)=some v:=qoi hv
    refine ⟨j,by rw [hN];exact q.1,?_,q.2⟩
    cases e2:σ[j]? with
    | none=>rw [e2] at hv;cases hv
    | some o2=>rw [e2] at hv;have hv:o2=some v:=hv;rw [hv]
theorem zzc {K:QFg}{H:Hp}{a:Addr}{ns:List Int}{m:FM}(hO:zjf H) (hS:SqL K H a (ns.map V.int)) (h:∃S',m [.ref 0] [.flst (ns.map D.int)]=some (.bl true,S')):sp3 K 1 m [.ref a] H (fun v _=>v=.bl true) fun _ _ _=>False:=by
 obtain ⟨S',h⟩:=h
 have rn:∀ns:List Int,RDs [a] H (ns.map D.int) (ns.map V.int):=fun ns=>by
  induction ns with
  | nil=>exact .nil
  | cons x r ih=>exact .cons (.int x) ih
 refine ⟨rfl,[a],[.ref 0],_,_,S',⟨rfl,fun i j b o1 o2 h1 h2 h3 h4 m1 m2=>?_,fun n b o h1 h2=>?_⟩,.cons (.ref rfl) .nil,h,fun ρ' H' v' e s r=>?_⟩
 ·cases i with
  | zero=>cases h3;cases m1
  | succ i=>cases h3
 ·cases n with
  | succ n=>cases h1
  | zero =>
   cases h1;cases h2
   refine ⟨_,?_,rn ns⟩
   rcases hS with (z|⟨o,z⟩)|z
   ·rcases hO a with y|⟨o,xs,y⟩ <;> (rw [z] at y;cases y)
   ·exact .inl ⟨o,z⟩
   ·exact .inr z
 ·cases r;rfl
noncomputable def top (b:List Stmt) (i:Nat):Stmt:=b.getD i (.Pass ⟨0,0,0,0⟩)
noncomputable def We (m:EM) (l:Lo) (S:Sto) (Q:D->Sto->Prop):Prop:=∃v S',m l S=some (v,S')/\Q v S'
noncomputable def Wt (m:TM) (l:Lo) (S:Sto) (Q:Bool->Sto->Prop):Prop:=∃v S',m l S=some (v,S')/\Q v S'
noncomputable def Wa (m:AM) (l:Lo) (S:Sto) (Q:List D->Sto->Prop):Prop:=∃v S',m l S=some (v,S')/\Q v S'
noncomputable def Wo (o:Option (D × Sto)) (Q:D->Sto->Prop):Prop:=∃v S',o=some (v,S')/\Q v S'
noncomputable def Wg (o:Option (Lo × Sto)) (Q:Lo->Sto->Prop):Prop:=∃l S',o=some (l,S')/\Q l S'
noncomputable def Wr (o:Option (Fl × Lo × Sto)) (Q:Fl->Lo->Sto->Prop):Prop:=∃f l S',o=some (f,l,S')/\Q f l S'
noncomputable abbrev Ws (m:SM) (l:Lo) (S:Sto) (Q:Fl->Lo->Sto->Prop):Prop:=Wr (m l S) Q
section
variable {a b c:EM}{t u:TM}{l:Lo}{S:Sto}{Q:D->Sto->Prop}{QB:Bool->Sto->Prop}{QA:List D->Sto->Prop}{QS:Fl->Lo->Sto->Prop}{QG:Lo->Sto->Prop}
theorem zan {i:Nat}:We (zaa i) l S Q = ∃d,l[i]? = some (some d)/\Q d S:=by
 apply propext;unfold We zaa
 constructor
 ·rintro ⟨v,S',h,q⟩
  split at h
  ·rename_i d e;cases h;exact ⟨_,e,q⟩
  ·cases h
 ·rintro ⟨d,e,q⟩
  exact ⟨d,S,by rw [e],q⟩
theorem zda {d:D}:We (eC d) l S Q=Q d S:=by
 apply propext;unfold We eC
 exact ⟨fun hx1_=>by obtain ⟨v,S',h,q⟩:=hx1_;cases h;exact q,fun q=>⟨_,_,rfl,q⟩⟩
theorem zcu {f:D->D->Sto->Option (D × Sto)}:We (eOp f a b) l S Q=We a l S fun x S1=>We b l S1 fun y S2=>Wo (f x y S2) Q:=by
 apply propext
 constructor
 ·rintro ⟨v,S',h,q⟩
  obtain ⟨⟨x,S1⟩,h1,h⟩:=bnd h
  obtain ⟨⟨y,S2⟩,h2,h⟩:=bnd h
  exact ⟨x,S1,h1,y,S2,h2,v,S',h,q⟩
 ·rintro ⟨x,S1,h1,y,S2,h2,v,S',h,q⟩
  exact ⟨v,S',by unfold eOp;rw [h1];show (b l S1).bind _=_;rw [h2];exact h,q⟩
theorem ze1 {f:D->Sto->Option (D × Sto)}:We (eUn f a) l S Q=We a l S fun x S1=>Wo (f x S1) Q:=by
 apply propext
 constructor
 ·rintro ⟨v,S',h,q⟩
  obtain ⟨⟨x,S1⟩,h1,h⟩:=bnd h
  exact ⟨x,S1,h1,v,S',h,q⟩
 ·rintro ⟨x,S1,h1,v,S',h,q⟩
  exact ⟨v,S',by unfold eUn;rw [h1];exact h,q⟩
theorem zcb:Wa zae l S QA=QA [] S:=by
 apply propext
 exact ⟨fun hx2_=>by obtain ⟨v,S',h,q⟩:=hx2_;cases h;exact q,fun q=>⟨_,_,rfl,q⟩⟩
theorem zbv {r:AM}:Wa (zac a r) l S QA=We a l S fun x S1=>Wa r l S1 fun xs S2=>QA (x :: xs) S2:=by
 apply propext
 constructor
 ·rintro ⟨v,S',h,q⟩
  obtain ⟨⟨x,S1⟩,h1,h⟩:=bnd h
  obtain ⟨⟨y,S2⟩,h2,h⟩:=bnd h
  cases h
  exact ⟨x,S1,h1,y,_,h2,q⟩
 ·rintro ⟨x,S1,h1,y,S2,h2,q⟩
  exact ⟨x :: y,S2,by unfold zac;rw [h1];show (r l S1).bind _=_;rw [h2];rfl,q⟩
theorem zb4 {f:FM}{r:AM}:We (zaf f r) l S Q=Wa r l S fun xs S1=>Wo (f xs S1) Q:=by
 apply propext
 constructor
 ·rintro ⟨v,S',h,q⟩
  obtain ⟨⟨x,S1⟩,h1,h⟩:=bnd h
  exact ⟨x,S1,h1,v,S',h,q⟩
 ·rintro ⟨x,S1,h1,v,S',h,q⟩
  exact ⟨v,S',by unfold zaf;rw [h1];exact h,q⟩
theorem zci {f:D->List D->Sto->Option (D × Sto)}{r:AM}:We (zcz f a r) l S Q=We a l S fun x S1=>(∃xs,zhc x S1=some xs)/\Wa r l S1 fun ys S2=>Wo (f x ys S2) Q:=by
 apply propext
 constructor
 ·rintro ⟨v,S',h,q⟩
  obtain ⟨⟨x,S1⟩,h1,h⟩:=bnd h
  obtain ⟨xs,h2,h⟩:=bnd h
  obtain ⟨⟨y,S2⟩,h3,h⟩:=bnd h
  exact ⟨x,S1,h1,⟨xs,h2⟩,y,S2,h3,v,S',h,q⟩
 ·rintro ⟨x,S1,h1,⟨xs,h2⟩,y,S2,h3,v,S',h,q⟩
  refine ⟨v,S',?_,q⟩
  unfold zcz;rw [h1];show (zhc x S1).bind _=_;rw [h2];show (r l S1).bind _=_;rw [h3];exact h
theorem ze2:Wt (tE a) l S QB=We a l S fun x S1=>∃k,x=.bl k/\QB k S1:=by
 apply propext
 constructor
 ·rintro ⟨v,S',h,q⟩
  obtain ⟨⟨x,S1⟩,h1,h⟩:=bnd h
  refine ⟨x,S1,h1,?_⟩
  cases x with
  | bl k=>cases h;exact ⟨_,rfl,q⟩
  | _=>cases h
 ·rintro ⟨x,S1,h1,k,rfl,q⟩
  exact ⟨k,S1,by unfold tE;rw [h1];rfl,q⟩
theorem zee:Wt (zcp t u) l S QB=Wt t l S fun k S1=>if k=true then Wt u l S1 QB else QB false S1:=by
 apply propext
 constructor
 ·rintro ⟨v,S',h,q⟩
  obtain ⟨⟨x,S1⟩,h1,h⟩:=bnd h
  refine ⟨x,S1,h1,?_⟩
  cases x with
  | true=>exact ⟨v,S',h,q⟩
  | false=>cases h;exact q
 ·rintro ⟨x,S1,h1,h⟩
  cases x with
  | true=>obtain ⟨v,S',h,q⟩:=h;exact ⟨v,S',by unfold zcp;rw [h1];exact h,q⟩
  | false=>exact ⟨false,S1,by unfold zcp;rw [h1];rfl,h⟩
theorem ze3:Wt (zdn t u) l S QB=Wt t l S fun k S1=>if k=true then QB true S1 else Wt u l S1 QB:=by
 apply propext
 constructor
 ·rintro ⟨v,S',h,q⟩
  obtain ⟨⟨x,S1⟩,h1,h⟩:=bnd h
  refine ⟨x,S1,h1,?_⟩
  cases x with
  | false=>exact ⟨v,S',h,q⟩
  | true=>cases h;exact q
 ·rintro ⟨x,S1,h1,h⟩
  cases x with
  | false=>obtain ⟨v,S',h,q⟩:=h;exact ⟨v,S',by unfold zdn;rw [h1];exact h,q⟩
  | true=>exact ⟨true,S1,by unfold zdn;rw [h1];rfl,h⟩
theorem ze4:Wt (zg7 t) l S QB=Wt t l S fun k S1=>QB (!k) S1:=by
 apply propext
 constructor
 ·rintro ⟨v,S',h,q⟩
  obtain ⟨⟨x,S1⟩,h1,h⟩:=bnd h
  cases h
  exact ⟨x,_,h1,q⟩
 ·rintro ⟨x,S1,h1,q⟩
  exact ⟨!x,S1,by unfold zg7;rw [h1];rfl,q⟩
theorem zqe:Wt zed l S QB=QB true S:=by
 apply propext
 exact ⟨fun hx3_=>by obtain ⟨v,S',h,q⟩:=hx3_;cases h;exact q,fun q=>⟨_,_,rfl,q⟩⟩
theorem zef:We (zfy a b) l S Q=We a l S fun x S1=>∃k,x=.bl k/\if k=true then We b l S1 Q else Q (.bl false) S1:=by
 apply propext
 constructor
 ·rintro ⟨v,S',h,q⟩
  obtain ⟨⟨x,S1⟩,h1,h⟩:=bnd h
  refine ⟨x,S1,h1,?_⟩
  cases x with
  | bl k =>
   cases k with
   | true=>exact ⟨true,rfl,v,S',h,q⟩
   | false=>cases h;exact ⟨false,rfl,q⟩
  | _=>cases h
 ·rintro ⟨x,S1,h1,k,rfl,h⟩
  cases k with
  | true=>obtain ⟨v,S',h,q⟩:=h;exact ⟨v,S',by unfold zfy;rw [h1];exact h,q⟩
  | false=>exact ⟨_,S1,by unfold zfy;rw [h1];rfl,h⟩
theorem ze5:We (zg8 a b) l S Q=We a l S fun x S1=>∃k,x=.bl k/\if k=true then Q (.bl true) S1 else We b l S1 Q:=by
 apply propext
 constructor
 ·rintro ⟨v,S',h,q⟩
  obtain ⟨⟨x,S1⟩,h1,h⟩:=bnd h
  refine ⟨x,S1,h1,?_⟩
  cases x with
  | bl k =>
   cases k with
   | false=>exact ⟨false,rfl,v,S',h,q⟩
   | true=>cases h;exact ⟨true,rfl,q⟩
  | _=>cases h
 ·rintro ⟨x,S1,h1,k,rfl,h⟩
  cases k with
  | false=>obtain ⟨v,S',h,q⟩:=h;exact ⟨v,S',by unfold zg8;rw [h1];exact h,q⟩
  | true=>exact ⟨_,S1,by unfold zg8;rw [h1];rfl,h⟩
theorem ze6:We (zig t a b) l S Q=Wt t l S fun k S1=>if k=true then We a l S1 Q else We b l S1 Q:=by
 apply propext
 constructor
 ·rintro ⟨v,S',h,q⟩
  obtain ⟨⟨x,S1⟩,h1,h⟩:=bnd h
  refine ⟨x,S1,h1,?_⟩
  cases x with
  | true=>exact ⟨v,S',h,q⟩
  | false=>exact ⟨v,S',h,q⟩
 ·rintro ⟨x,S1,h1,h⟩
  cases x with
  | true=>obtain ⟨v,S',h,q⟩:=h;exact ⟨v,S',by unfold zig;rw [h1];exact h,q⟩
  | false=>obtain ⟨v,S',h,q⟩:=h;exact ⟨v,S',by unfold zig;rw [h1];exact h,q⟩
variable {m n:SM}
theorem zf4:Ws zbl l S QS=QS .nx l S:=by
 apply propext
 exact ⟨fun hx4_=>by obtain ⟨f,v,S',h,q⟩:=hx4_;cases h;exact q,fun q=>⟨_,_,_,rfl,q⟩⟩
theorem zf5:Ws zjt l S QS=QS .bk l S:=by
 apply propext
 exact ⟨fun hx5_=>by obtain ⟨f,v,S',h,q⟩:=hx5_;cases h;exact q,fun q=>⟨_,_,_,rfl,q⟩⟩
theorem zdt:Ws (zak m n) l S QS=Ws m l S fun f l1 S1=>match f with | .nx=>Ws n l1 S1 QS|f=>QS f l1 S1:=by
 apply propext
 constructor
 ·rintro ⟨f,v,S',h,q⟩
  obtain ⟨⟨g,l1,S1⟩,h1,h⟩:=bnd h
  refine ⟨g,l1,S1,h1,?_⟩
  cases g with
  | nx=>exact ⟨f,v,S',h,q⟩
  | _=>cases h;exact q
 ·rintro ⟨g,l1,S1,h1,h⟩
  cases g with
  | nx=>obtain ⟨f,v,S',h,q⟩:=h;exact ⟨f,v,S',by unfold zak;rw [h1];exact h,q⟩
  | bk=>exact ⟨_,_,_,by unfold zak;rw [h1];rfl,h⟩
  | ct=>exact ⟨_,_,_,by unfold zak;rw [h1];rfl,h⟩
  | rt d=>exact ⟨_,_,_,by unfold zak;rw [h1];rfl,h⟩
theorem zax (R:Lo->Sto->Prop) (h1:Ws m l S fun f l1 S1=>f=.nx/\R l1 S1) (h2:∀l1 S1,R l1 S1->Ws n l1 S1 QS):Ws (zak m n) l S QS:=by
 rw [zdt]
 obtain ⟨f,l1,S1,e,rfl,r⟩:=h1
 exact ⟨_,_,_,e,h2 l1 S1 r⟩
theorem ze7:Ws (sIf t m n) l S QS=Wt t l S fun k S1=>if k=true then Ws m l S1 QS else Ws n l S1 QS:=by
 apply propext
 constructor
 ·rintro ⟨f,v,S',h,q⟩
  obtain ⟨⟨x,S1⟩,h1,h⟩:=bnd h
  refine ⟨x,S1,h1,?_⟩
  cases x with
  | true=>exact ⟨f,v,S',h,q⟩
  | false=>exact ⟨f,v,S',h,q⟩
 ·rintro ⟨x,S1,h1,h⟩
  cases x with
  | true=>obtain ⟨f,v,S',h,q⟩:=h;exact ⟨f,v,S',by unfold sIf;rw [h1];exact h,q⟩
  | false=>obtain ⟨f,v,S',h,q⟩:=h;exact ⟨f,v,S',by unfold sIf;rw [h1];exact h,q⟩
theorem zcj:Ws (zc8 a) l S QS=We a l S fun _ S1=>QS .nx l S1:=by
 apply propext
 constructor
 ·rintro ⟨f,v,S',h,q⟩
  obtain ⟨⟨x,S1⟩,h1,h⟩:=bnd h
  cases h
  exact ⟨x,_,h1,q⟩
 ·rintro ⟨x,S1,h1,q⟩
  exact ⟨_,_,_,by unfold zc8;rw [h1];rfl,q⟩
theorem zdl:Ws (za4 a) l S QS=We a l S fun x S1=>QS (.rt x) l S1:=by
 apply propext
 constructor
 ·rintro ⟨f,v,S',h,q⟩
  obtain ⟨⟨x,S1⟩,h1,h⟩:=bnd h
  cases h
  exact ⟨x,_,h1,q⟩
 ·rintro ⟨x,S1,h1,q⟩
  exact ⟨_,_,_,by unfold za4;rw [h1];rfl,q⟩
theorem zbq {g:GM}:Ws (zap a g) l S QS=We a l S fun x S1=>Wg (g x l S1) fun l2 S2=>QS .nx l2 S2:=by
 apply propext
 constructor
 ·rintro ⟨f,v,S',h,q⟩
  obtain ⟨⟨x,S1⟩,h1,h⟩:=bnd h
  obtain ⟨⟨l2,S2⟩,h2,h⟩:=bnd h
  cases h
  exact ⟨x,S1,h1,_,_,h2,q⟩
 ·rintro ⟨x,S1,h1,l2,S2,h2,q⟩
  refine ⟨_,_,_,?_,q⟩
  unfold zap;rw [h1];show (g x l S1).bind _=_;rw [h2];rfl
theorem zba {i:Nat}{d:D}:Wg (zal i d l S) QG=QG (l.set i (some d)) S:=by
 apply propext
 exact ⟨fun hx7_=>by obtain ⟨v,S',h,q⟩:=hx7_;cases h;exact q,fun q=>⟨_,_,rfl,q⟩⟩
theorem zck {k:Nat}{gs:GsM}{xs:List D}:Wg (zcs k gs (.tup xs) l S) QG=(xs.length=k/\Wg (gs xs l S) QG):=by
 apply propext
 constructor
 ·rintro ⟨v,S',h,q⟩
  have h:(if xs.length=k then gs xs l S else none)=some (v,S'):=h
  by_cases hl:xs.length=k
  ·rw [if_pos hl] at h;exact ⟨hl,v,S',h,q⟩
  ·rw [if_neg hl] at h;cases h
 ·rintro ⟨hl,v,S',h,q⟩
  exact ⟨v,S',by show (if xs.length=k then gs xs l S else none)=_;rw [if_pos hl];exact h,q⟩
theorem zcl:Wg (zcr [] l S) QG=QG l S:=by
 apply propext
 exact ⟨fun hx8_=>by obtain ⟨v,S',h,q⟩:=hx8_;cases h;exact q,fun q=>⟨_,_,rfl,q⟩⟩
theorem zcm {g:GM}{gs:GsM}{x:D}{xs:List D}:Wg (zbf g gs (x :: xs) l S) QG=Wg (g x l S) fun l1 S1=>Wg (gs xs l1 S1) QG:=by
 apply propext
 constructor
 ·rintro ⟨v,S',h,q⟩
  obtain ⟨⟨l1,S1⟩,h1,h⟩:=bnd h
  exact ⟨l1,S1,h1,v,S',h,q⟩
 ·rintro ⟨l1,S1,h1,v,S',h,q⟩
  exact ⟨v,S',by show (g x l S).bind _=_;rw [h1];exact h,q⟩
theorem zeg {o i:EM}{v:D}:Wg (zgn o i v l S) QG=We o l S fun x S1=>We i l S1 fun y S2=>∃S',zdr x y v S2=some S'/\QG l S':=by
 apply propext
 constructor
 ·rintro ⟨l',S',h,q⟩
  obtain ⟨⟨x,S1⟩,h1,h⟩:=bnd h
  obtain ⟨⟨y,S2⟩,h2,h⟩:=bnd h
  obtain ⟨S3,h3,h⟩:=bnd h
  cases h
  exact ⟨x,S1,h1,y,S2,h2,_,h3,q⟩
 ·rintro ⟨x,S1,h1,y,S2,h2,S3,h3,q⟩
  refine ⟨l,S3,?_,q⟩
  unfold zgn;rw [h1];show (i l S1).bind _=_;rw [h2];show (zdr x y v S2).bind _=_;rw [h3];rfl
theorem zbe {d:D}:Wo (some (d,S)) Q=Q d S:=by
 apply propext
 exact ⟨fun hx9_=>by obtain ⟨v,S',h,q⟩:=hx9_;cases h;exact q,fun q=>⟨_,_,rfl,q⟩⟩
theorem ziq {α:Type}{o:Option α}{f:α->Option (D × Sto)}:Wo (o.bind f) Q = ∃x,o=some x/\Wo (f x) Q:=by
 cases o with
 | none=>simp [Wo]
 | some x=>simp [Wo]
theorem zgp {p:Prop} [Decidable p] {x:D × Sto}:Wo (if p then some x else none) Q=(p/\Q x.1 x.2):=by
 obtain ⟨a,b⟩:=x
 by_cases hp:p
 ·rw [if_pos hp]
  apply propext
  exact ⟨fun hx10_=>by obtain ⟨v,S',h,q⟩:=hx10_;cases h;exact ⟨hp,q⟩,fun q=>⟨a,b,rfl,q.2⟩⟩
 ·simp [hp,Wo]
theorem ze8 {g:Int->Int->D}{i j:Int}:Wo (oI0 g (.int i) (.int j) S) Q=Q (g i j) S:=zbe
theorem ze9 {C:Int->Int->Bool}{g:Int->Int->D}{i j:Int}:Wo (oI C g (.int i) (.int j) S) Q=(C i j=true/\Q (g i j) S):=zgp
theorem zeh {xs:List D}{i:Int}:Wo (dIx (.tup xs) (.int i) S) Q = ∃v,L2.atI xs i=some v/\Q v S:=by
 show Wo ((L2.atI xs i).bind fun v=>some (v,S)) Q=_
 rw [ziq];simp only [zbe]
theorem zei {k:Nat}{i:Int}:Wo (dIx (.ref k) (.int i) S) Q = ∃xs,lstOf S k=some xs/\∃v,L2.atI xs i=some v/\Q v S:=by
 show Wo ((lstOf S k).bind fun xs=>(L2.atI xs i).bind fun v=>some (v,S)) Q=_
 rw [ziq];simp only [ziq,zbe]
theorem zej {xs:List D}:Wo (zik [.tup xs] S) Q=Q (.int xs.length) S:=zbe
theorem zek {k:Nat}:Wo (zik [.ref k] S) Q = ∃xs,lstOf S k=some xs/\Q (.int xs.length) S:=by
 show Wo ((lstOf S k).bind fun xs=>some (.int xs.length,S)) Q=_
 rw [ziq];simp only [zbe]
theorem zfa {i:Int}:Wo (zgl [.int i] S) Q=Q (.int (if i<0 then -i else i)) S:=zbe
theorem zdu {xs:List D}:Wo (zaw xs S) Q=(xs.length<=sizeLine/\Q (.tup xs) S):=zgp
theorem zel {xs:List D}:Wo (zc5 xs S) Q=(xs.length<=sizeLine/\Q (.ref S.length) (S++[.lst xs])):=zgp
theorem zdv {k:Nat}:Wo (zec [.ref k] S) Q = ∃xs,lstOf S k=some xs/\Q (.tup xs) S:=by
 show Wo ((lstOf S k).bind fun xs=>some (.tup xs,S)) Q=_
 rw [ziq];simp only [zbe]
theorem zfb {i j:Int}:Wo (dEq (.int i) (.int j) S) Q=Q (.bl (decide (i=j))) S:=zbe
theorem zfc {i j:Str}:Wo (dNe (.str i) (.str j) S) Q=Q (.bl (!decide (i=j))) S:=zbe
theorem zfd {x:D}:Wo (dIs x .non S) Q=Q (.bl (zch x)) S:=by
 cases x <;> exact zbe
theorem zfe {x:D}:Wo (zdq x .non S) Q=Q (.bl (!zch x)) S:=by
 cases x <;> exact zbe
theorem zzd {k:Nat}{x:D}:Wo (zcy (.ref k) [x] S) Q = ∃xs,S[k]? = some (.lst xs)/\xs.length<sizeLine/\Q .non (S.set k (.lst (xs++[x]))):=by
 show Wo (match S[k]? with|some (.lst xs)=>if xs.length<sizeLine then some (.non,S.set k (.lst (xs++[x]))) else none|_=>none) Q=_
 cases e:S[k]? with
 | none=>simp [Wo]
 | some o =>
  cases o with
  | lst xs=>simp [zgp]
  | flst xs=>simp [Wo]
  | iset f n=>simp [Wo]
  | dct kvs=>simp [Wo]
  | fdct kvs=>simp [Wo]
  | ftdct kvs=>simp [Wo]
  | tset ks=>simp [Wo]
  | fnc x=>simp [Wo]
  | tdct kvs=>simp [Wo]
  | exc c=>simp [Wo]
theorem zbg {k:Nat}{b:SM}{ds:List D}:Wo (zbs k b ds S) Q=Ws b (ds.map some++List.replicate (k-ds.length) none) S fun f _ S1=>match f with | .rt d=>Q d S1 | .nx=>Q .non S1|_=>False:=by
 apply propext
 constructor
 ·rintro ⟨v,S',h,q⟩
  obtain ⟨⟨f,l1,S1⟩,h1,h⟩:=bnd h
  refine ⟨f,l1,S1,h1,?_⟩
  cases f with
  | rt d=>cases h;exact q
  | nx=>cases h;exact q
  | bk=>cases h
  | ct=>cases h
 ·rintro ⟨f,l1,S1,h1,q⟩
  cases f with
  | rt d=>exact ⟨_,_,by unfold zbs;rw [h1];rfl,q⟩
  | nx=>exact ⟨_,_,by unfold zbs;rw [h1];rfl,q⟩
  | bk=>cases q
  | ct=>cases q
end
theorem Wo.mono {o:Option (D × Sto)}{Q Q':D->Sto->Prop}(h:Wo o Q) (i:∀v S,Q v S->Q' v S):Wo o Q':=let ⟨v,S,e,q⟩:=h;⟨v,S,e,i v S q⟩
theorem Wr.mono {o:Option (Fl × Lo × Sto)}{Q Q':Fl->Lo->Sto->Prop}(h:Wr o Q) (i:∀f v S,Q f v S->Q' f v S):Wr o Q':=let ⟨f,v,S,e,q⟩:=h;⟨f,v,S,e,i f v S q⟩
section
variable {g:GM}{b:SM}{l:Lo}{S:Sto}{QS:Fl->Lo->Sto->Prop}
theorem zze {as:AM}:Ws (zdk (zb3 as) g b) l S QS=Wa as l S fun xs S1=>∃j,xs=[.int j]/\(-(2 ^ 62)<=j/\j<2 ^ 62)/\Wr (zby g b (zbm 0 j.toNat) l S1) QS:=by
 apply propext
 constructor
 ·rintro ⟨f,v,S',h,q⟩
  obtain ⟨⟨⟨lo,n⟩,S1⟩,h1,h⟩:=bnd h
  obtain ⟨⟨xs,S2⟩,h2,h1⟩:=bnd h1
  dsimp only at h1
  split at h1
  ·rename_i j
   obtain ⟨hz,e⟩:=zbk h1
   cases e
   exact ⟨_,_,h2,j,rfl,hz,f,v,S',h,q⟩
  ·cases h1
 ·rintro ⟨xs,S1,h1,j,rfl,hz,f,v,S',h,q⟩
  refine ⟨f,v,S',?_,q⟩
  have:zb3 as l S=some ((0,j.toNat),S1):=by
   unfold zb3;rw [h1];show (if _ then _ else _)=_;rw [if_pos hz]
  unfold zdk;show (zb3 as l S).bind _=_;rw [this];exact h
theorem zqf {e:EM}:Ws (zgo e g b) l S QS=We e l S fun x S1=>Wr (match x with | .tup xs=>zby g b xs l S1 | .ref n=>(lstOf S1 n).bind fun xs=>zf2 g b n (xs.length+1) 0 l S1|_=>none) QS:=by
 apply propext
 constructor
 ·rintro ⟨f,v,S',h,q⟩
  obtain ⟨⟨x,S1⟩,h1,h⟩:=bnd h
  exact ⟨x,S1,h1,f,v,S',h,q⟩
 ·rintro ⟨x,S1,h1,f,v,S',h,q⟩
  exact ⟨f,v,S',by unfold zgo;rw [h1];exact h,q⟩
theorem zjx {lo:Int}{n i:Nat}{x:D}(h:(zbm lo n)[i]? = some x):i<n/\x=.int (lo+i):=by
 have hl:=(qme h).1
 simp only [zbm,qlm,List.length_range] at hl
 unfold zbm at h
 rw [qgm,List.getElem?_range hl] at h
 exact ⟨hl,(qoi h).symm⟩
theorem zir (lo:Int) (n:Nat):(zbm lo n).length=n:=by simp [zbm]
end
mutual
noncomputable def zbn (S:Sto):Nat->D->Option PyData
 | 0,_=>none
 | _+1,.non=>some .none
 | _+1,.bl b=>some (.bool b)
 | _+1,.int i=>if i.natAbs.log2<1920 then some (.int i) else none
 | _+1,.str x=>some (.str x)
 | k+1,.tup xs=>(zdw S k xs).bind fun ds=>some (.tuple ds)
 | k+1,.ref n=>(lstOf S n).bind fun xs=>(zdw S k xs).bind fun ds=>some (.list ds)
 | _+1,.fn _=>none
termination_by k=>(k,0)
noncomputable def zdw (S:Sto):Nat->List D->Option (List PyData)
 | _,[]=>some []
 | k,x :: xs=>(zbn S k x).bind fun d=>(zdw S k xs).bind fun ds=>some (d :: ds)
termination_by k xs=>(k,xs.length+1)
end
section
variable {X:Cx}{pins:List (Addr × Obj)}{σ:St}{H:Hp}{s:Shared}{ρ:List Addr}{S:Sto}
mutual
theorem zis (I:Inv X pins σ H s) (sim:Sim X.K ρ S H):∀(k:Nat) (d:D) (v:V) (u:Value) (p:PyData),RD ρ H d v->RelV v u->zbn S k d=some p->(∃as,Reads s.heap u p as)/\p.showable=true/\p.hasDict=false/\p.depth<=k
 | 0,d,v,u,p,_,_,h=>by unfold zbn at h;cases h
 | k+1,.non,v,u,p,r,e,h=>by
  unfold zbn at h;cases h;cases r;cases e
  exact ⟨⟨_,.none⟩,rfl,rfl,Nat.zero_le _⟩
 | k+1,.bl b,v,u,p,r,e,h=>by
  unfold zbn at h;cases h;cases r;cases e
  exact ⟨⟨_,.bool b⟩,rfl,rfl,Nat.zero_le _⟩
 | k+1,.int i,v,u,p,r,e,h=>by
  unfold zbn at h
  obtain ⟨hz,e2⟩:=zbk h
  cases e2;cases r
  obtain ⟨t,rfl⟩:=e
  exact ⟨⟨_,.int i t⟩,by unfold PyData.showable;exact decide_eq_true hz,rfl,Nat.zero_le _⟩
 | k+1,.str x,v,u,p,r,e,h=>by
  unfold zbn at h;cases h;cases r
  obtain ⟨t,rfl⟩:=e
  exact ⟨⟨_,.str x t⟩,rfl,rfl,Nat.zero_le _⟩
 | k+1,.fn _,v,u,p,r,e,h=>by unfold zbn at h;cases h
 | k+1,.tup xs,v,u,p,r,e,h=>by
  unfold zbn at h
  obtain ⟨ds,h1,h⟩:=bnd h
  cases h
  cases r with
  | tup ha r =>
   cases e
   obtain ⟨its,rv,⟨o,ho,hc,n,hd⟩,hz⟩:=I.tuple (SqT.of ha)
   obtain ⟨⟨as,h2⟩,h3,h4,h5⟩:=zl1 I sim k xs _ _ ds r rv h1
   refine ⟨⟨as,.tuple ho hc hd (by simpa using h2)⟩,?_,?_,?_⟩
   ·unfold PyData.showable;exact h3
   ·unfold PyData.hasDict;exact h4
   ·unfold PyData.depth;omega
 | k+1,.ref n,v,u,p,r,e,h=>by
  unfold zbn at h
  obtain ⟨xs,h0,h⟩:=bnd h
  obtain ⟨ds,h1,h⟩:=bnd h
  cases h
  obtain ⟨a,vs,ha,sq,rd⟩:=sim.lstOf h0
  cases r with
  | ref hn =>
   rw [ha] at hn;cases hn
   cases e
   obtain ⟨its,rv,pl,hz⟩:=I.list sq
   obtain ⟨o,ho,hc,m,hd⟩:=pl.isList
   obtain ⟨⟨as,h2⟩,h3,h4,h5⟩:=zl1 I sim k xs _ _ ds rd rv h1
   refine ⟨⟨_,.list ho hc hd (by simpa using h2)⟩,?_,?_,?_⟩
   ·unfold PyData.showable;exact h3
   ·unfold PyData.hasDict;exact h4
   ·unfold PyData.depth;omega
termination_by k=>(k,0)
theorem zl1 (I:Inv X pins σ H s) (sim:Sim X.K ρ S H):∀(k:Nat) (xs:List D) (vs:List V) (us:List Value) (ds:List PyData),RDs ρ H xs vs->Vals vs us->zdw S k xs=some ds->(∃as,ReadsAll s.heap us ds as)/\PyData.showableAll ds=true/\PyData.hasDictAll ds=false/\PyData.depthAll ds<=k
 | k,[],vs,us,ds,r,e,h=>by
  unfold zdw at h;cases h;cases r;cases e
  exact ⟨⟨_,.nil⟩,rfl,rfl,Nat.zero_le _⟩
 | k,x :: xs,vs,us,ds,r,e,h=>by
  unfold zdw at h
  obtain ⟨d,h1,h⟩:=bnd h
  obtain ⟨ds',h2,h⟩:=bnd h
  cases h
  cases r with
  | cons r1 r2 =>
   cases e with
   | cons e1 e2 =>
    obtain ⟨⟨as,q1⟩,q2,q3,q4⟩:=zis I sim k x _ _ d r1 e1 h1
    obtain ⟨⟨bs,p1⟩,p2,p3,p4⟩:=zl1 I sim k xs _ _ ds' r2 e2 h2
    refine ⟨⟨_,.cons q1 p1⟩,?_,?_,?_⟩
    ·unfold PyData.showableAll;rw [q2,p2];rfl
    ·unfold PyData.hasDictAll;rw [q3,p3];rfl
    ·unfold PyData.depthAll;omega
termination_by k xs=>(k,xs.length+1)
end
end
section
variable {X:Cx}{a:Expr}{es:List Expr}{mA:AM}{pos p:Pos}
end
theorem zzf:fillsNumberSlot (.type "tuple") "mul" = pure false :=
 PySem.fillsNumberSlot_seq (id:="tuple.__mul__") (r:=some (.builtin "tuple.__rmul__")) PySem.F.slot_tuple_mul.lookup (by decide +kernel) PySem.F.slot_tuple_rmul.lookup (by decide +kernel)
theorem zzg:seqRepeat? (.type "tuple")=pure (some (.builtin "tuple.__mul__")):=by
 unfold seqRepeat?
 rw [PySem.seqSlot_of (T:="tuple") (name:="__mul__") (id:="tuple.__mul__") PySem.F.slot_tuple_mul.lookup (by decide +kernel),PySem.seqSlot_of (T:="tuple") (name:="__rmul__") (id:="tuple.__rmul__") PySem.F.slot_tuple_rmul.lookup (by decide +kernel)]
 rfl
open PySem.AutoSeq1 (wpAny_loadPart')
theorem zzh (a:Int) (t:Tok) (l:Addr) (items:Array Value) (n:Nat) (dd:Option Addr) (sl:Array (Option Value)) :
  Meets (Builtin.«int.__rmul__» ⟨[.int a t,.ref l],[]⟩) (fun _ R s=>s.heap.get? l=some { cls:=.type "tuple",dict:=dd,data:=.seq items n,slots:=sl }/\R (.ok (.ret Value.notImplemented)) s) :=
 .of_wp fun prog w A R s h=>by obtain ⟨hp,g,d,tk,os⟩:=s;obtain ⟨hl,h⟩:=h;wp_walk;exact ⟨_,rfl,h⟩
section
variable {prog:Program}{w:World}{A:Around}{E:Value->Shared->Prop}{s:Shared}
theorem zzi {t:Addr}{items:Array Value}{k:Int}{u:Tok}{Q:Value->Shared->Prop}(ht:IsTup s.heap t items) (k0:2<=k) (k1:k<2 ^ 31) (hi:items.isEmpty=false) (hz:items.size*k.toNat<=sizeLine)
  (h:Q (.ref s.heap.objs.size) { s with heap:=s.heap.push { cls:=.type "tuple",data:=.seq ((List.replicate k.toNat items).foldl (·++·) #[]) } }) (h6:((List.replicate k.toNat items).foldl (·++·) #[]).size<=sizeLine) :
  wpAny (model prog w) A (call (.builtin "tuple.__mul__") [.ref t,.int k u]) Q E s:=by
 refine wpAny_call_entry PySem.F.slot_tuple_mul ht.typeIs PySem.F.entry_tuple_mul ?_ (PySem.F.args_tuple_mul_2 _ _)
 show wpAny _ _ (asIndex (.int k u) >>= _) _ _ s
 refine wpAny_bind ?_
 show wpAny _ _ (pure k) _ _ s
 refine wpAny_pure ?_
 have e1:(decide (k < -(2 ^ 63)) || decide (k ≥ 2 ^ 63))=false:=by
  rw [Bool.or_eq_false_iff];exact ⟨decide_eq_false (by omega),decide_eq_false (by omega)⟩
 have e2:(items.isEmpty || k == 1)=false:=by rw [hi,Bool.false_or];exact beq_false_of_ne (by omega)
 have e3:(decide (k<=0) || items.isEmpty)=false:=by rw [hi,Bool.or_false];exact decide_eq_false (by omega)
 show wpAny _ _ (if (decide (k < -(2 ^ 63)) || decide (k ≥ 2 ^ 63))=true then _ else _) _ _ s
 rw [if_neg (by rw [e1];exact Bool.false_ne_true)]
 refine wpAny_bind (tupleItemsOf_ ht ?_)
 show wpAny _ _ (if (items.isEmpty || k == 1)=true then _ else _) _ _ s
 rw [if_neg (by rw [e2];exact Bool.false_ne_true)]
 show wpAny _ _ (if (decide (k<=0) || items.isEmpty)=true then _ else _) _ _ s
 rw [if_neg (by rw [e3];exact Bool.false_ne_true)]
 have hk:(items.size:Int)*k=((items.size*k.toNat:Nat):Int):=by rw [Int.natCast_mul,Int.toNat_of_nonneg (by omega)]
 have hs:(sizeLine:Nat)=16777216:=by decide
 show wpAny _ _ (if (items.size:Int)*k > (2 ^ 63-1) / 8 then _ else _) _ _ s
 rw [if_neg (by rw [hk];omega)]
 show wpAny _ _ (if Builtin.Tuple.tupleTooMany ((items.size:Int)*k)=true then _ else _) _ _ s
 rw [if_neg (by unfold Builtin.Tuple.tupleTooMany;rw [hk];simp only [decide_eq_true_eq];omega)]
 first
  | exact wpAny_bind (m:=Builtin.Tuple.tupleExact _) (wpAny_newObj_type (wpAny_pure ⟨_,rfl,h⟩) h6)
  | exact wpAny_bind (m:=Builtin.Tuple.tupleExact _) (wpAny_newObj_type (wpAny_pure ⟨_,rfl,wpAny_pure h⟩) h6)
theorem zzj {t:Addr}{items:Array Value}{u:Tok}{Q:Value->Shared->Prop}(ht:IsTup s.heap t items) (h:Q (.ref t) s) :
  wpAny (model prog w) A (call (.builtin "tuple.__mul__") [.ref t,.int 1 u]) Q E s:=by
 refine wpAny_call_entry PySem.F.slot_tuple_mul ht.typeIs PySem.F.entry_tuple_mul ?_ (PySem.F.args_tuple_mul_2 _ _)
 show wpAny _ _ (asIndex (.int 1 u) >>= _) _ _ s
 refine wpAny_bind ?_
 show wpAny _ _ (pure (1:Int)) _ _ s
 refine wpAny_pure ?_
 show wpAny _ _ (if (decide ((1:Int) < -(2 ^ 63)) || decide ((1:Int) ≥ 2 ^ 63))=true then _ else _) _ _ s
 rw [if_neg (by decide)]
 refine wpAny_bind (tupleItemsOf_ ht ?_)
 show wpAny _ _ (if (items.isEmpty || (1:Int) == 1)=true then _ else _) _ _ s
 rw [if_pos (by simp)]
 unfold Builtin.Tuple.tupleIsExact
 refine wpAny_bind (wpAny_bind (wpAny_typeOf ht.typeIs (wpAny_pure ?_)))
 rw [if_pos (by decide)]
 exact wpAny_bind (wpAny_rule (wpAny_pure ⟨_,rfl,h⟩))
theorem zzk {t:Addr}{items:Array Value}{k:Int}{u:Tok}{Q:Value->Shared->Prop}(ht:IsTup s.heap t items) (k0:k=0) (hi:items.isEmpty=false)
  (h:Q (.ref s.heap.objs.size) { s with heap:=s.heap.push { cls:=.type "tuple",data:=.seq #[] } }) :
  wpAny (model prog w) A (call (.builtin "tuple.__mul__") [.ref t,.int k u]) Q E s:=by
 subst k0
 refine wpAny_call_entry PySem.F.slot_tuple_mul ht.typeIs PySem.F.entry_tuple_mul ?_ (PySem.F.args_tuple_mul_2 _ _)
 show wpAny _ _ (asIndex (.int 0 u) >>= _) _ _ s
 refine wpAny_bind ?_
 show wpAny _ _ (pure (0:Int)) _ _ s
 refine wpAny_pure ?_
 show wpAny _ _ (if (decide ((0:Int) < -(2 ^ 63)) || decide ((0:Int) ≥ 2 ^ 63))=true then _ else _) _ _ s
 rw [if_neg (by decide)]
 refine wpAny_bind (tupleItemsOf_ ht ?_)
 show wpAny _ _ (if (items.isEmpty || (0:Int) == 1)=true then _ else _) _ _ s
 rw [if_neg (by rw [hi];decide)]
 show wpAny _ _ (if (decide ((0:Int)<=0) || items.isEmpty)=true then _ else _) _ _ s
 rw [if_pos (by simp)]
 first
  | exact wpAny_bind (m:=Builtin.Tuple.tupleExact _) (wpAny_newObj_type (wpAny_pure ⟨_,rfl,h⟩) (Nat.zero_le _))
  | exact wpAny_bind (m:=Builtin.Tuple.tupleExact _) (wpAny_newObj_type (wpAny_pure ⟨_,rfl,h⟩) (by decide))
end
noncomputable def zqg (K:QFg):R2:=fun x y H Q=>∃a k xs,x=.ref a/\y=.int k/\SqT K H a xs/\xs≠[]/\0<=k/\k<2 ^ 31/\xs.length*k.toNat<=sizeLine /\
 (k=1->Q (.ref a) H)/\(k≠1->∀p,H p=none->Q (.ref p) (upd H p (.tup (List.replicate k.toNat xs).flatten)))
theorem zzl {X:Cx}:OpR X (binaryOp .Mult) (zqg X.K):=by
 intro pins s σ H x y v u Q I rx ry h
 obtain ⟨a,k,xs,rfl,rfl,hx,hne,k0,k1,hz,q1,q2⟩:=h
 cases rx
 obtain ⟨t,rfl⟩:=ry
 obtain ⟨its,r,pt,_⟩:=I.tuple hx
 have hne':its≠[]:=fun z=>hne (r.nil_iff.mp z)
 have hie:its.toArray.isEmpty=false:=by cases its with
  | nil=>exact absurd rfl hne'
  | cons _ _=>simp
 obtain ⟨⟨cls,dd,data,sl⟩,ho,hc,n,hd⟩:=id pt
 simp only at hc hd
 subst hc hd
 refine wpAny_binaryOp_repeat_ref (T:="tuple") (U:="int") (by decide) ⟨_,ho,rfl⟩ (fun s'=>typeIs_int s' k t) zzf PySem.F.fills_int_mul PySem.F.slot_int_rmul zzg PySem.F.slot_int_index.lookup
  (call_meets PySem.F.slot_int_rmul (typeIs_int s k t) PySem.F.entry_int_rmul (PySem.F.args_int_rmul_2 _ _) (zzh k t a its.toArray n dd sl) ⟨ho,rfl,⟨_,ho,rfl⟩,?_⟩)
 have f0:∀m:Nat,List.foldl (fun x1 x2=>x1++x2) #[] (List.replicate m its.toArray)=(List.replicate m its).flatten.toArray:=fun m=>by
  have:=zo9 its m []
  rw [List.nil_append] at this
  exact this
 have hl:xs.length=its.length:=r.length
 by_cases e1:k=1
 ·subst e1
  exact zzj pt ⟨.ref a,H,I,rfl,q1 rfl⟩
 ·by_cases e0:k=0
  ·refine zzk pt e0 hie ?_
   have hv:Vals ([]:List V) ([]:List Value):=.nil
   refine ⟨.ref s.heap.objs.size,_,I.laid (t':=s.toks) (o:=.tup []) (fun b ob q=>qps _ q) (qlr _) ?_,rfl,?_⟩
   ·exact ⟨Nat.zero_le _,[],.nil,IsTup.new _ _⟩
   ·have:=q2 e1 _ (I.hok.fresh (qlr _))
    subst e0
    exact this
  ·have hlen:(List.replicate k.toNat its).flatten.length=k.toNat*its.length:=zpe its k.toNat
   refine zzi pt (by omega) k1 hie (by rw [List.size_toArray,←hl];exact hz) ?_ ?_
   ·rw [f0]
    refine ⟨.ref s.heap.objs.size,_,I.laid (t':=s.toks) (o:=.tup (List.replicate k.toNat xs).flatten) (fun b ob q=>qps _ q) (qlr _) ?_,rfl,q2 e1 _ (I.hok.fresh (qlr _))⟩
    exact ⟨by rw [zpe,Nat.mul_comm];exact hz,_,r.rep k.toNat,IsTup.new _ _⟩
   ·rw [f0,List.size_toArray,hlen,Nat.mul_comm,←hl];exact hz
noncomputable def zc1:D->D->Sto->Option (D × Sto)
 | .int i,.int j,S=>if (-(2 ^ 64)<i/\i<2 ^ 64)∨(-(2 ^ 64)<j/\j<2 ^ 64) then some (.int (i*j),S) else none
 | .tup (x :: xs),.int k,S=>if 0<=k/\k<2 ^ 31/\(xs.length+1)*k.toNat<=sizeLine then some (.tup (List.replicate k.toNat (x :: xs)).flatten,S) else none
 | _,_,_=>none
theorem zzm {K:QFg}:Op3 K zc1 (fun x y H Q=>rI CMul (fun i j=>.int (i*j)) x y H Q∨zqg K x y H Q):=by
 intro ρ S H x y x' y' v S' Q sim rx ry h p
 unfold zc1 at h
 split at h
 ·obtain ⟨hc,e⟩:=zbk h
  cases e;cases rx;cases ry
  exact .inl ⟨_,_,rfl,rfl,hc,p ρ H _ (Ext.refl ..) sim (.int _)⟩
 ·rename_i x xs k
  obtain ⟨⟨k0,k1,hz⟩,e⟩:=zbk h
  cases e;cases ry
  cases rx with
  | @tup _ a vs ha r =>
   have hl:=r.length
   refine .inr ⟨a,k,vs,rfl,rfl,SqT.of ha,?_,k0,k1,by rw [←hl];exact hz,fun e=>?_,fun _=>zih sim (r.rep k.toNat) p⟩
   ·intro z;rw [z] at hl;cases hl
   ·subst e
    have e2:(List.replicate (1:Int).toNat (x :: xs)).flatten=x :: xs:=by simp
    rw [e2] at p
    exact p ρ H _ (Ext.refl ..) sim (.tup ha r)
 ·cases h
section
variable {X:Cx}{a b:Expr}{ma mb:EM}{pos:Pos}
theorem zf6 (ha:PE3 X a ma) (hb:PE3 X b mb):PE3 X (.BinOp a .Mult b pos) (eOp zc1 ma mb):=zg9 (op_mul.or zzl) zzm ha hb
end
noncomputable def whl (c:TM) (b:SM):Nat->SM
 | 0,_,_=>none
 | k+1,l,S=>(c l S).bind fun p=>if p.1=true then (b l p.2).bind fun q=>match q.1 with
  | .nx=>whl c b k q.2.1 q.2.2
  | .ct=>whl c b k q.2.1 q.2.2
  | .bk=>some (.nx,q.2)
  | .rt d=>some (.rt d,q.2) else some (.nx,l,p.2)
section
variable {X:Cx}{c:Expr}{body:List Stmt}{mc:TM}{mb:SM}{pos:Pos}
theorem zzn (n:Nat) (hp:PassesOwn (model X.prog X.w) X.A X.env X.xe) (hc:PT3 X c mc) (hb:zc3 X body mb):PS3 X (.While c body [] pos) (whl mc mb n) :=
 PS.imp (zwf hp hc hb) fun E σ H hx1_=>by
  obtain ⟨ρ,l,S,f,l',S',sim,ro,hm,p⟩:=hx1_
  refine ⟨fun m σ1 H1=>∃ρ1 l1 S1,Ext ρ H ρ1 H1/\Sim X.K ρ1 S1 H1/\RO ρ1 H1 l1 σ1/\whl mc mb m l1 S1=some (f,l',S'),⟨n,ρ,l,S,Ext.refl ..,sim,ro,hm⟩,?_⟩
  rintro m σ1 H1 ⟨ρ1,l1,S1,e1,s1,ro1,hm1⟩
  cases m with
  | zero=>cases hm1
  | succ m =>
   unfold whl at hm1
   obtain ⟨⟨k,S2⟩,q1,hm1⟩:=bnd hm1
   refine ⟨ρ1,l1,S1,k,S2,s1,ro1,q1,fun ρ2 H2 e2 s2=>?_⟩
   cases k with
   | false =>
    cases hm1
    exact zew (p ρ2 H2 σ1 (e1.trans e2) s2 (ro1.mono e2))
   | true =>
    have hm1:((mb l1 S2).bind fun q=>match q.1 with
     | .nx=>whl mc mb m q.2.1 q.2.2
     | .ct=>whl mc mb m q.2.1 q.2.2
     | .bk=>some (.nx,q.2)
     | .rt d=>some (.rt d,q.2))=some (f,l',S'):=hm1
    obtain ⟨⟨fl,l3,S3⟩,q2,hm1⟩:=bnd hm1
    refine zex ⟨_,fun σ' H' h=>h,ρ2,l1,S2,fl,l3,S3,s2,ro1.mono e2,q2,fun ρ3 H3 σ3 e3 s3 ro3=>?_⟩
    cases fl with
    | nx=>exact ⟨m,Nat.lt_succ_self m,ρ3,l3,S3,e1.trans (e2.trans e3),s3,ro3,hm1⟩
    | ct=>exact ⟨m,Nat.lt_succ_self m,ρ3,l3,S3,e1.trans (e2.trans e3),s3,ro3,hm1⟩
    | bk=>cases hm1;exact p ρ3 H3 σ3 (e1.trans (e2.trans e3)) s3 ro3
    | rt d=>cases hm1;exact p ρ3 H3 σ3 (e1.trans (e2.trans e3)) s3 ro3
theorem zzo (j:Nat) {x:Str}{e:Expr}{me:EM}{pos':Pos}(hN:X.N.Nodup) (he:PE3 X e me) (hi:X.N[j]? = some x:=by rfl) (hx:Loc X.env.scope x:=by first|exact Or.inl rfl|exact Or.inr rfl) (hf:X.fn x=true∨X.env.scope.names.lookup x=some .local:=by first|exact .inl rfl|exact .inr rfl|assumption) :
  PS3 X (.AugAssign (.Name x pos') .Add e pos) (zap (eOp zlh (zaa j) me) (zal j)):=PS.imp (zwc hN hi hx he zwd hf) fun E σ H hx2_=>by
 obtain ⟨ρ,l,S,f,l',S',sim,ro,hm,p⟩:=hx2_
 obtain ⟨⟨y,S1⟩,q1,hm⟩:=bnd hm
 obtain ⟨⟨x1,S2⟩,q2,q1⟩:=bnd q1
 obtain ⟨⟨x2,S3⟩,q3,q1⟩:=bnd q1
 cases hm
 unfold zaa at q2
 split at q2
 ·rename_i d ed
  cases q2
  obtain ⟨w,h1,h2⟩:=ro.get j _ ed
  refine ⟨w,h1,ρ,l,_,x2,S3,sim,ro,q3,fun ρ1 H1 x' e1 s1 r1=>?_⟩
  dsimp only at q1
  unfold zlh oI0 at q1
  split at q1
  ·cases q1
   cases h2;cases r1
   exact ⟨_,_,rfl,rfl,p ρ1 H1 _ e1 s1 ((ro.mono e1).set j (.int _))⟩
  ·cases q1
 ·cases q2
end
section
variable {X:Cx}
variable {a b:Expr}{ma mb:EM}{pos:Pos}
end
noncomputable def zhg:D->D->Sto->Option (D × Sto):=fun x y S=>(zbn S 60 x).bind fun p=>(zbn S 60 y).bind fun q=>if p.canLay0=true/\q.canLay0=true then some (.bl (p.eqv q),S) else none
noncomputable def zhh:D->D->Sto->Option (D × Sto):=fun x y S=>(zbn S 60 x).bind fun p=>(zbn S 60 y).bind fun q=>if p.canLay0=true/\q.canLay0=true then some (.bl (!p.eqv q),S) else none
noncomputable def zjy (K:QFg) (neg:Bool):R2:=fun x y H Q=>∃ρ S dx dy p q,Sim K ρ S H/\RD ρ H dx x/\RD ρ H dy y/\zbn S 60 dx=some p/\zbn S 60 dy=some q/\p.canLay0=true/\q.canLay0=true/\Q (.bl (if neg then !p.eqv q else p.eqv q)) H
section
variable {X:Cx}
theorem zzp {k:Nat}(hr:Room k X.A):OpR X (compareOp .Eq) (zjy X.K false):=by
 intro pins s σ H x y v u Q I rx ry h
 obtain ⟨ρ,S,dx,dy,p,q,sim,r1,r2,h1,h2,c1,c2,hq⟩:=h
 obtain ⟨⟨as,k1⟩,_,_,k2⟩:=zis I sim 60 dx x v p r1 rx h1
 obtain ⟨⟨bs,k3⟩,_,_,k4⟩:=zis I sim 60 dy y u q r2 ry h2
 have hu:X.A.units+min p.depth q.depth<cLine:=by have:=hr.un;have:min p.depth q.depth<=p.depth:=Nat.min_le_left _ _;omega
 exact PySem.SeqAt.compareEq_reads k1 k3 c1 c2 hu ⟨.bl _,H,I,rfl,hq⟩
theorem zzq {k:Nat}(hr:Room k X.A):OpR X (compareOp .NotEq) (zjy X.K true):=by
 intro pins s σ H x y v u Q I rx ry h
 obtain ⟨ρ,S,dx,dy,p,q,sim,r1,r2,h1,h2,c1,c2,hq⟩:=h
 obtain ⟨⟨as,k1⟩,_,_,k2⟩:=zis I sim 60 dx x v p r1 rx h1
 obtain ⟨⟨bs,k3⟩,_,_,k4⟩:=zis I sim 60 dy y u q r2 ry h2
 have hu:X.A.units+min p.depth q.depth<cLine:=by have:=hr.un;have:min p.depth q.depth<=p.depth:=Nat.min_le_left _ _;omega
 exact PySem.SeqAt.compareNe_reads k1 k3 c1 c2 hu ⟨.bl _,H,I,rfl,hq⟩
theorem zzr {K:QFg}:Op3 K zhg (zjy K false):=by
 intro ρ S H x y x' y' v S' Q sim rx ry h p
 obtain ⟨d1,h1,h⟩:=bnd h
 obtain ⟨d2,h2,h⟩:=bnd h
 obtain ⟨hc,e⟩:=zbk h
 cases e
 exact ⟨ρ,_,x,y,d1,d2,sim,rx,ry,h1,h2,hc.1,hc.2,p ρ H _ (Ext.refl ..) sim (.bl _)⟩
theorem zzs {K:QFg}:Op3 K zhh (zjy K true):=by
 intro ρ S H x y x' y' v S' Q sim rx ry h p
 obtain ⟨d1,h1,h⟩:=bnd h
 obtain ⟨d2,h2,h⟩:=bnd h
 obtain ⟨hc,e⟩:=zbk h
 cases e
 exact ⟨ρ,_,x,y,d1,d2,sim,rx,ry,h1,h2,hc.1,hc.2,p ρ H _ (Ext.refl ..) sim (.bl _)⟩
variable {a b:Expr}{ma mb:EM}{pos:Pos}{k:Nat}
theorem zzt (hr:Room k X.A) (ha:PE3 X a ma) (hb:PE3 X b mb):PE3 X (.Compare a [.NotEq] [b] pos) (eOp zhh ma mb):=zgj (zzq hr) zzs ha hb (zco b)
theorem zzu (hr:Room k X.A) (ha:PE3 X a ma) (hb:PE3 X b mb):PT3 X (.Compare a [.Eq] [b] pos) (tE (eOp zhg ma mb)):=zdo (zzp hr) zzr ha hb (zco b)
end
noncomputable def zjz:D->Bool
 | .non=>true | .bl _=>true | .int _=>true | .str _=>true
 | _=>false
noncomputable def zj0:D->D->Bool
 | .non,.non=>true
 | .bl a,.bl b=>a == b
 | .bl a,.int b=>(if a then 1 else 0) == b
 | .int a,.bl b=>a == (if b then 1 else 0)
 | .int a,.int b=>a == b
 | .str a,.str b=>a == b
 | _,_=>false
noncomputable def zl2 (S:Sto):D->Option (List D)
 | .tup xs=>some xs
 | .ref n=>lstOf S n
 | _=>none
noncomputable def zhi (neg:Bool):D->D->Sto->Option (D × Sto):=fun x y S=>(zl2 S y).bind fun xs=>if zjz x=true/\xs.all zjz=true then some (.bl (if neg then !(xs.any fun y=>zj0 y x) else xs.any fun y=>zj0 y x),S) else none
theorem zqh {ρ:List Addr}{H:Hp}{x:D}{x':V}(r:RD ρ H x x'):zea x' = zjz x:=by
 cases r <;> rfl
theorem zzv {ρ:List Addr}{H:Hp}{x y:D}{x' y':V}(r:RD ρ H x x') (r':RD ρ H y y'):eqV x' y' = zj0 x y:=by
 cases r <;> cases r' <;> rfl
theorem zqi {ρ:List Addr}{H:Hp}:∀{xs:List D}{vs:List V},RDs ρ H xs vs->vs.all zea=xs.all zjz
 | _,_,.nil=>rfl
 | _,_,.cons r q=>by rw [List.all_cons,List.all_cons,zqh r,zqi q]
theorem zqj {ρ:List Addr}{H:Hp}{x:D}{x':V}(rx:RD ρ H x x'):∀{xs:List D}{vs:List V},RDs ρ H xs vs->inV x' vs=xs.any fun y=>zj0 y x
 | _,_,.nil=>rfl
 | _,_,.cons r q=>by
  have ih:=zqj rx q
  unfold inV at ih ⊢
  rw [List.any_cons,List.any_cons,zzv r rx,ih]
theorem zqk {K:QFg}{neg:Bool}:Op3 K (zhi neg) (rIn K neg):=by
 intro ρ S H x y x' y' v S' Q sim rx ry h p
 obtain ⟨xs,h1,h⟩:=bnd h
 obtain ⟨hc,e⟩:=zbk h
 cases e
 have fin:∀a vs,y' = .ref a->(SqL K H a vs∨SqT K H a vs)->RDs ρ H xs vs->rIn K neg x' y' H Q:=fun a vs e1 e2 r=>by
  refine ⟨a,vs,e1,e2,by rw [zqh rx];exact hc.1,by rw [zqi r];exact hc.2,?_⟩
  rw [zqj rx r]
  exact p ρ H _ (Ext.refl ..) sim (.bl _)
 cases ry with
 | tup ha r=>cases h1;exact fin _ _ rfl (.inr (SqT.of ha)) r
 | ref hn =>
  obtain ⟨a,vs,ha,sq,r⟩:=sim.lstOf h1
  rw [ha] at hn;cases hn
  exact fin _ _ rfl (.inl sq) r
 | _=>cases h1
noncomputable def zl3:Sto->D->Option ((Int->Bool) × Nat)
 | S,.ref n=>match S[n]? with
  | some (.iset f k)=>some (f,k)
  | _=>none
 | _,_=>none
theorem Sim.isetOf {K:QFg}{ρ:List Addr}{S:Sto}{H:Hp}{x:D}{v:V}{f:Int->Bool}{k:Nat}(s:Sim K ρ S H) (r:RD ρ H x v) (h:zl3 S x=some (f,k)):∃n a,x=.ref n/\v=.ref a/\ρ[n]? = some a/\S[n]? = some (.iset f k)/\H a=some (.set f k):=by
 unfold zl3 at h
 split at h
 ·rename_i n
  split at h
  ·rename_i f' k' e
   cases h
   cases r with
   | @ref _ a hn=>exact ⟨n,a,rfl,rfl,hn,e,s.at' n a _ hn e⟩
  ·cases h
 ·cases h
noncomputable def zl4 (neg:Bool):D->D->Sto->Option (D × Sto)
 | .int i,y,S=>(zl3 S y).bind fun p=>some (.bl (if neg then !p.1 i else p.1 i),S)
 | _,_,_=>none
noncomputable def zl5 (neg:Bool):R2:=fun x y H Q=>∃i a f n,x=.int i/\y=.ref a/\H a=some (.set f n)/\Q (.bl (if neg then !f i else f i)) H
section
variable {X:Cx}
theorem op_inI:OpR X (compareOp .In) (zl5 false):=by
 intro pins s σ H x y v u Q I rx ry h
 obtain ⟨i,a,f,n,rfl,rfl,hH,q⟩:=h
 obtain ⟨t,rfl⟩:=rx
 cases ry
 exact PySem.wpAny_inSet_of (knd:=intKind X.prog X.w) (k:=i) (PySem.intKind_is X.prog X.w i t) rfl (I.hok a _ hH) ⟨.bl _,H,I.tok _,rfl,q⟩
theorem op_notInI:OpR X (compareOp .NotIn) (zl5 true):=by
 intro pins s σ H x y v u Q I rx ry h
 obtain ⟨i,a,f,n,rfl,rfl,hH,q⟩:=h
 obtain ⟨t,rfl⟩:=rx
 cases ry
 exact PySem.wpAny_notInSet_of (knd:=intKind X.prog X.w) (k:=i) (PySem.intKind_is X.prog X.w i t) rfl (I.hok a _ hH) ⟨.bl _,H,I.tok _,rfl,q⟩
theorem op3_inI {K:QFg}{neg:Bool}:Op3 K (zl4 neg) (zl5 neg):=by
 intro ρ S H x y x' y' v S' Q sim rx ry h p
 unfold zl4 at h
 split at h
 ·obtain ⟨⟨f,k⟩,h1,h⟩:=bnd h
  cases h
  cases rx
  obtain ⟨n,a,rfl,rfl,_,_,hH⟩:=sim.isetOf ry h1
  exact ⟨_,a,f,k,rfl,rfl,hH,p ρ H _ (Ext.refl ..) sim (.bl _)⟩
 ·cases h
noncomputable def dIn (neg:Bool):D->D->Sto->Option (D × Sto):=fun x y S=>match zl4 neg x y S with|some v=>some v|none=>zhi neg x y S
variable {a b:Expr}{ma mb:EM}{pos:Pos}
theorem zl6 (ha:PE3 X a ma) (hb:PE3 X b mb) (hm:behindInMarks .In b=false:=by rfl):PT3 X (.Compare a [.In] [b] pos) (tE (eOp (dIn false) ma mb)):=zdo (op_inI.or zx1) (op3_inI.or zqk) ha hb hm
theorem zql (ha:PE3 X a ma) (hb:PE3 X b mb) (hm:behindInMarks .NotIn b=false:=by rfl):PT3 X (.Compare a [.NotIn] [b] pos) (tE (eOp (dIn true) ma mb)):=zdo (op_notInI.or zx2) (op3_inI.or zqk) ha hb hm
end
section
variable {X:Cx}
variable {o e:Expr}{mo m:EM}{apos cpos:Pos}
end
section
variable {prog:Program}{w:World}{A:Around}{E:Value->Shared->Prop}{s:Shared}
theorem zzw {env:Env}{q:Str}{Q:Bool->Shared->Prop}(h:s.heap.CodeRec env.code q) (hq:∀b,Q b s):wpAny (model prog w) A (inMainModule env) Q E s:=by
 obtain ⟨c,o,vs,t,e1,ho,hd,_⟩:=h
 unfold inMainModule
 rw [e1]
 show wpAny _ _ (fieldsOf (.ref c) >>= _) _ _ s
 refine wpAny_bind ?_
 show wpAny _ _ (load c >>= _) _ _ s
 refine wpAny_bind (wpAny_load ho ?_)
 rw [hd]
 refine wpAny_pure ?_
 split
 ·exact wpAny_bind (wpAny_askSetting (wpAny_pure (hq _)))
 ·exact wpAny_pure (hq _)
end
section
variable {X:Cx}
end
noncomputable def zj1:Nat:=1000000
noncomputable def zgq:D->List D->Sto->Option (D × Sto)
 | .ref n,[.int i],S=>match S[n]? with
  | some (.lst xs)=>(seqIndex? i xs.length).bind fun k=>(xs[k]?).bind fun y=>if -(2 ^ 63)<=i/\i<2 ^ 63 then some (y,S.set n (.lst (xs.eraseIdx k))) else none
  | _=>none
 | _,_,_=>none
theorem RDs.eraseIdx {ρ:List Addr}{H:Hp}:∀{xs:List D}{vs:List V}(k:Nat),RDs ρ H xs vs->RDs ρ H (xs.eraseIdx k) (vs.eraseIdx k)
 | _,_,_,.nil=>.nil
 | _,_,0,.cons _ q=>q
 | _,_,k+1,.cons r q=>.cons r (RDs.eraseIdx k q)
theorem zzx {K:QFg}:Mt3 K zgq zpc:=by
 intro ρ S H x x' xs vs v S' Q sim rx r h p
 unfold zgq at h
 split at h
 ·split at h
  ·rename_i n i S ys e
   obtain ⟨k,h1,h⟩:=bnd h
   obtain ⟨y,h2,h⟩:=bnd h
   obtain ⟨hz,e2⟩:=zbk h
   cases e2
   obtain ⟨w,rfl,rw'⟩:=r.one
   cases rw'
   obtain ⟨a,us,ha,hH,r2⟩:=sim.lst e
   obtain ⟨w2,hw,rw2⟩:=r2.get h2
   cases rx with
   | ref hn =>
    rw [ha] at hn;cases hn
    exact ⟨a,us,i,k,w2,rfl,rfl,hH,hz.1,hz.2,by rw [←r2.length];exact h1,hw,p ρ _ _ (zjh ha hH) (sim.set ha e hH (r2.eraseIdx k)) (rw2.mono (zjh ha hH))⟩
  ·cases h
 ·cases h
section
variable {X:Cx}{o e:Expr}{mo m:EM}{apos cpos:Pos}
theorem zzy (ho:PE3 X o mo) (he:PE3 X e m)
  (hbase:attributeBase o "pop" X.env (eval o X.env)=eval o X.env:=by rfl)
  (hfew:((backTo cpos (starEach [e] X.env)).all (fun x=>!x.1) && (backToKw cpos (keywordEach [] X.env)).all (fun x=>x.1.isSome)
   && decide ([e].length+([]:List Keyword).length+(if ([]:List Keyword).isEmpty then 0 else 1)<30))=true:=by rfl)
  (hline:(apos.endLine == cpos.line)=true:=by rfl) (hs:starEach [e] X.env=(false,eval e X.env) :: starEach [] X.env:=by rfl) :
  PE3 X (.Call (.Attribute o "pop" apos) [e] [] cpos) (zcz zgq mo (zac m zae)) :=
 zpx PySem.F.slot_list_pop PySem.F.type_list_pop zx7 zzx ho (zad he zah hs) hbase hfew hline hs
end
section
variable {X:Cx}{o e:Expr}{mo m:EM}{apos cpos:Pos}
end
noncomputable def zhj (lo:Int) (n:Nat):List V:=(List.range n).map fun (i:Nat)=>V.int (lo+i)
theorem zqm:∀{xs:List V}{us:List Value},xs.length=us.length->(∀(j:Nat) x u,xs[j]? = some x->us[j]? = some u->RelV x u)->Vals xs us
 | [],[],_,_=>.nil
 | [],_ :: _,h,_=>by simp at h
 | _ :: _,[],h,_=>by simp at h
 | x :: xs,u :: us,h,q=>.cons (q 0 x u rfl rfl) (zqm (by simpa using h) fun j y w h1 h2=>q (j+1) y w (by simpa using h1) (by simpa using h2))
section
variable {X:Cx}
theorem zzz:CallR X (.type "range") (fun xs H Q=>∃j,xs=[.int j]/\∀r,H r=none->Q (.ref r) (upd H r (.rng 0 j))):=by
 intro pins s σ H xs us Q I r h
 obtain ⟨j,rfl,q⟩:=h
 obtain ⟨u1,rfl,r1⟩:=r.one
 obtain ⟨t,rfl⟩:=r1
 exact call_range_1 ⟨.ref _,_,I.laid (o:=.rng 0 j) (fun b o e=>qps _ e) (qlr _) ⟨_,_,_,Heap.get?_push_size _ rfl⟩,rfl,q _ I.fresh⟩
theorem zz0 (hc:X.calm=true):CallR X (.type "list") (fun xs H Q=>∃p lo hi,xs=[.ref p]/\H p=some (.rng lo hi)/\(-(2 ^ 62)<=lo/\lo<2 ^ 62/\-(2 ^ 62)<=hi/\hi<2 ^ 62)/\(hi-lo).toNat<=sizeLine/\∀l,H l=none->Q (.ref l) (upd H l (.lst (zhj lo (hi-lo).toNat)))):=by
 intro pins s σ H xs us Q I r h
 obtain ⟨p,lo,hi,rfl,hH,⟨b1,b2,b3,b4⟩,hz,q⟩:=h
 obtain ⟨u1,rfl,r1⟩:=r.one
 cases r1
 obtain ⟨t,u,v,e⟩:=I.hok p _ hH
 have hn:Builtin.Range.rangeSize lo hi 1=((hi-lo).toNat:Nat):=by rw [rangeSize_one];split <;> omega
 have hz2:(hi-lo).toNat<=2 ^ 24:=Nat.le_trans hz (by decide)
 refine PySem.call_list_range (n:=(hi-lo).toNat) (I.ok.hd hc) e (small_one b1 b2 b3 b4) (by rw [hn]) hz2 fun h' tk acc c' k he hi'=>?_
 obtain ⟨h1,h2⟩:=hi'
 refine ⟨.ref _,_,I.laid (o:=.lst (zhj lo (hi-lo).toNat)) k (qlr _) ⟨by unfold zhj;rw [qlm,List.length_range];exact hz,acc.toList,c',zqm (by simp [zhj,h1]) fun j x w e1 e2=>?_,he⟩,rfl,q _ I.fresh⟩
 rw [Array.getElem?_toList] at e2
 obtain ⟨t',rfl⟩:=h2 j w e2
 unfold zhj at e1
 rw [qgm] at e1
 cases e3:(List.range (hi-lo).toNat)[j]? with
 | none=>rw [e3] at e1;cases e1
 | some i =>
  rw [e3] at e1
  cases e1
  have:=(qme e3).2
  simp at this
  subst this
  exact ⟨t',by rw [Int.mul_one]⟩
theorem zz1 (ρ:List Addr) (H:Hp) (lo:Int) (n:Nat):RDs ρ H (zbm lo n) (zhj lo n):=zlt ρ H lo n
theorem zz2:bootBuiltins "range" = some (.type "range"):=by decide +kernel
noncomputable def zl7 (r:Lo->Sto->Option ((Int × Nat) × Sto)):EM:=fun l S=>(r l S).bind fun p=>if p.1.2<=sizeLine then some (.ref p.2.length,p.2++[.lst (zbm p.1.1 p.1.2)]) else none
variable {a a2:Expr}{mA:AM}{p p0 pos pos':Pos}
theorem zz3 (hc:X.calm=true) (hg:Gl X "list") (hm:X.mg "list" = none) (hgr:Gl X "range") (hmr:X.mg "range" = none) (ha:PA3 X [a] mA)
  (he:starEach [.Call (.Name "range" p0) [a] [] pos'] X.env=[(false,eval (.Call (.Name "range" p0) [a] [] pos') X.env)]:=by rfl)
  (he2:starEach [a] X.env=(false,eval a X.env) :: starEach [] X.env:=by rfl) :
  PE3 X (.Call (.Name "list" p) [.Call (.Name "range" p0) [a] [] pos'] [] pos) (zl7 (zb3 mA)) :=
 PE.imp (zlb (zz0 hc) hg hm zzb (zoo (zlb zzz hgr hmr zz2 ha (by decide) (by decide) he2 rfl) zon he) (by decide) (by decide) he rfl) fun σ H Q hx2_=>by
  obtain ⟨ρ,l,S,v,S',sim,ro,hm,p⟩:=hx2_
  obtain ⟨⟨⟨lo,n⟩,S1⟩,q1,hm⟩:=bnd hm
  obtain ⟨⟨xs,S2⟩,q2,q1⟩:=bnd q1
  dsimp only at q1 hm
  obtain ⟨hz,e⟩:=zbk hm
  cases e
  split at q1
  ·rename_i j
   obtain ⟨hb,e⟩:=zbk q1
   cases e
   refine ⟨ρ,l,S,[.int j],S1,sim,ro,q2,fun ρ1 H1 vs e1 s1 r1=>?_⟩
   obtain ⟨v,rfl,rv⟩:=r1.one
   cases rv
   refine ⟨j,rfl,fun r hr=>⟨r,0,j,rfl,zcg,⟨by decide,by decide,hb.1,hb.2⟩,by simpa using hz,?_⟩⟩
   have:=zii (s1.laid (u:=.rng 0 j) hr) (zz1 ρ1 _ 0 j.toNat) (p.ext (e1.trans (zca hr)))
   simpa using this
  ·cases q1
end
section
variable {X:Cx}
variable {a:Expr}{es:List Expr}{mA:AM}{p pos:Pos}
end
noncomputable def zff:D->Sto->Option (D × Sto)
 | .int i,S=>some (.int (-i),S)
 | _,_=>none
theorem zgr {X:Cx}{a:Expr}{ma:EM}{pos:Pos}(ha:PE3 X a ma):PE3 X (.UnaryOp .USub a pos) (eUn zff ma):=PE.imp (zwr zww ha) fun σ H Q hx1_=>by
 obtain ⟨ρ,l,S,v,S',sim,ro,hm,p⟩:=hx1_
 obtain ⟨⟨x,S1⟩,h1,hm⟩:=bnd hm
 refine ⟨ρ,l,S,x,S1,sim,ro,h1,fun ρ1 H1 x' e1 s1 r1=>?_⟩
 cases r1 with
 | int i=>cases hm;exact ⟨i,rfl,p ρ1 H1 _ e1 s1 (.int _)⟩
 | _=>cases hm
section
variable {X:Cx}{pos:Pos}
end
section
variable {X:Cx}{a b:Expr}{ma mb:EM}{pos:Pos}{k:Nat}
end
section
variable {X:Cx}{pins:List (Addr × Obj)}{σ:St}{H:Hp}{s:Shared}{ρ:List Addr}{S:Sto}
end
section
variable {X:Cx}{a:Expr}{es:List Expr}{mA:AM}{pos p:Pos}
end
section
variable {prog:Program}{w:World}{A:Around}{E:Value->Shared->Prop}{s:Shared}
theorem zz4 {b t:Addr}{n:Nat}{vs:Array Value}{u:Value}{Q:Value->Shared->Prop}(hb:s.heap.IsTupleIter b t n) (ht:s.heap.IsTuple t vs) (hu:vs[n]? = some u)
  (q:∀h1,h1.IsTupleIter b t (n+1)->Heap.SameBut b s.heap h1->Q u { s with heap:=h1 }):wpAny (model prog w) A (Builtin.SmallTypes.nextOf (.ref b)) Q E s:=by
 obtain ⟨ob,gb,cb,db⟩:=id hb
 obtain ⟨ot,gt,_,nt,dt⟩:=ht
 unfold Builtin.SmallTypes.nextOf
 refine wpAny_bind (wpAny_callSpecial?_slot (name:=Str.ofString "__next__") hb.typeIs F.slot_tuple_iterator_next (wpAny_call_entry F.slot_tuple_iterator_next hb.typeIs F.entry_tuple_iterator_next ?_ (F.args_tuple_iterator_next_1 _)))
 show wpAny _ _ (field (.ref b) 0 >>= _) _ _ s
 refine wpAny_bind (wpAny_field gb db (x:=.ref t) rfl ?_)
 show wpAny _ _ (if (Value.ref t == Value.none)=true then _ else _) _ _ s
 rw [if_neg (by intro z;cases z)]
 show wpAny _ _ (field (.ref b) 1 >>= _) _ _ s
 refine wpAny_bind (wpAny_field gb db (x:=.int n 0) rfl ?_)
 show wpAny _ _ (seqItems? (.ref t) >>= _) _ _ s
 refine wpAny_bind (wpAny_seqItems gt dt ?_)
 simp only [Int.toNat_natCast,hu]
 refine wpAny_bind (wpAny_setField gb db (by simp) (wpAny_pure ⟨u,rfl,wpAny_pure (q _ ⟨_,Heap.get?_update_self _ gb (Obj.isFreed_of_fields (Obj.data_mapFields db _)),(Obj.cls_mapFields ..).trans cb,by rw [Obj.data_mapFields db];simp [rawInt]⟩ (Heap.SameBut.update ..))⟩))
theorem zl8 {b t:Addr}{n:Nat}{vs:Array Value}{Q:Value->Shared->Prop}(hA:A.handled=none) (hb:s.heap.IsTupleIter b t n) (ht:s.heap.IsTuple t vs) (hu:vs[n]? = none)
  (q:∀h1 x,Heap.ExtBut b s.heap h1->(∃o,h1.get? x=some o/\o.cls=.type "StopIteration")->E (.ref x) { s with heap:=h1 }):wpAny (model prog w) A (Builtin.SmallTypes.nextOf (.ref b)) Q E s:=by
 obtain ⟨ob,gb,cb,db⟩:=id hb
 obtain ⟨ot,gt,_,nt,dt⟩:=ht
 unfold Builtin.SmallTypes.nextOf
 refine wpAny_bind (wpAny_callSpecial?_slot (name:=Str.ofString "__next__") hb.typeIs F.slot_tuple_iterator_next (wpAny_call_entry F.slot_tuple_iterator_next hb.typeIs F.entry_tuple_iterator_next ?_ (F.args_tuple_iterator_next_1 _)))
 show wpAny _ _ (field (.ref b) 0 >>= _) _ _ s
 refine wpAny_bind (wpAny_field gb db (x:=.ref t) rfl ?_)
 show wpAny _ _ (if (Value.ref t == Value.none)=true then _ else _) _ _ s
 rw [if_neg (by intro z;cases z)]
 show wpAny _ _ (field (.ref b) 1 >>= _) _ _ s
 refine wpAny_bind (wpAny_field gb db (x:=.int n 0) rfl ?_)
 show wpAny _ _ (seqItems? (.ref t) >>= _) _ _ s
 refine wpAny_bind (wpAny_seqItems gt dt ?_)
 simp only [Int.toNat_natCast,hu]
 refine wpAny_bind (wpAny_rule (wpAny_bind (wpAny_setField gb db (by simp) ?_)))
 show wpAny _ _ (newExc (.type "StopIteration") [] >>= _) _ _ _
 refine wpAny_bind ?_
 simp only [newExc,newTuple]
 refine wpAny_bind (wpAny_newObj_type ?_ (by size_fits))
 refine wpAny_bind (m:=firstArgMember _ _) (wpAny_of_eq (a:=Value.none) (by first|rfl|(simp only [firstArgMember];rfl)) ?_)
 refine wpAny_newObj_type ?_ (by size_fits)
 simp only [raiseNew]
 refine wpAny_bind (wpAny_handled ?_)
 first|rw [show A.in1.handled=none from hA]|rw [hA]
 refine wpAny_bind (wpAny_pure (wpAny_throw ?_))
 exact q _ _ (((Heap.SameBut.update ..).extBut.push _).push _) ⟨_,Heap.get?_push_size _ rfl,rfl⟩
end
theorem zqn {prog:Program}{w:World}{A:Around}(hA:A.handled=none) (b t:Addr) (hne:t≠b) (vs:Array Value) :
  Draws prog w A b [b,t] vs.size (fun i v=>vs[i]? = some v) (fun i h=>h.IsTupleIter b t i/\h.IsTuple t vs) where
 live:=fun _ _ st=>let ⟨o,ho,_⟩:=st.1;⟨o,ho⟩
 frame:=fun _ _ _ st hk=>⟨let ⟨o,ho,r⟩:=st.1;⟨o,hk b (by simp) o ho,r⟩,let ⟨o,ho,r⟩:=st.2;⟨o,hk t (by simp) o ho,r⟩⟩
 item:=fun i s Q E hi st hQ=>zz4 st.1 st.2 (u:=vs[i]) (by simp [hi]) fun h1 hb1 hs1=>hQ _ h1 s.toks (by simp [hi]) ⟨hb1,st.2.extBut hs1.extBut hne⟩ hs1
 done:=fun s Q E st hE=>zl8 hA st.1 st.2 (by simp) hE
theorem Inv.dealt {X:Cx}{pins:List (Addr × Obj)}{σ:L2.St}{H:Hp}{s:Shared}{h1:Heap}{t1:Nat}{ch:List Addr}{xs:List V}{us:List Value}(I:Inv X pins σ H s) (hf:∀b∈ch,zdf X pins H b)
  (k:∀b o,b ∉ ch->s.heap.get? b=some o->h1.get? b=some o) (g:IsTup h1 s.heap.objs.size us.toArray) (r:Vals xs us) (hz:xs.length<=sizeLine) :
  Inv X pins σ (upd H s.heap.objs.size (.tup xs)) { s with heap:=h1,toks:=t1 }:=by
 have hn:H s.heap.objs.size=none:=I.hok.fresh (qlr _)
 have ne:∀b o,s.heap.get? b=some o->b≠s.heap.objs.size:=fun b o e=>Nat.ne_of_lt (Heap.lt_size e)
 have nf:∀b u,H b=some u->b ∉ ch:=fun b u e z=>by rw [(hf b z).1] at e;cases e
 refine I.step (g':=s.gens) (d':=s.drawn) (ch:=ch) (fun b hb=>?_) (fun b o _ _ hc e _=>k b o hc e) (fun b o _ _ hc e _=>⟨o.slots,k b o hc e⟩) (fun b o _ e n=>by rw [zar (ne b o e)];exact n)
  (fun b o hc e=>⟨o,k b o hc e⟩) (fun b ys e=>by rw [zar (zbc e hn)];exact e) (fun b o u e=>by rw [zar (zbc e hn)];exact e) (fun b ps e=>⟨#[],by rw [zar (zbc e hn),e];simp⟩) (fun m hm=>?_) (fun b u e=>?_) I.bare
 ·obtain ⟨_,q1,_,q3,q4,q5⟩:=hf b hb
  exact ⟨q3,q1,q4,q5⟩
 ·obtain ⟨o,es,ep,ho,q⟩:=hm
  exact ⟨o,es,ep,k _ o (fun z=>(hf _ z).2.1 rfl) ho,q⟩
 ·by_cases hb:b=s.heap.objs.size
  ·subst hb;rw [zcg] at e;cases e;exact ⟨hz,us,r,g⟩
  ·rw [zar hb] at e
   refine (I.hok b u e).stay (fun c v hc q=>k c v ?_ q) (fun c q=>by rw [zar (zbc q hn)];exact q) fun c xs q=>by rw [zar (zbc q hn)];exact q
   rcases hc with z|z
   ·rw [z];exact nf b u e
   ·exact nf c _ z
noncomputable def Itn (J:It):It:=⟨J.go,fun i H x H1=>∃y p,J.yld i H y H/\H p=none/\x=.ref p/\H1=upd H p (.tup [.int i,y]),J.stop⟩
section
variable {P:Program}{w:World}{K:QFg}{elts:List Expr}{z:Nat}{tp:Pos}
theorem zl9 {e b:Addr}{T:Heap->Prop}(hT:∀h,T h->∃o,h.get? b=some o/\∀v,o.data≠.cell v) (i:Nat) (h:Heap) (st:(∃old,IsEnum h e b i old)/\T h):∀c∈[e,b],∃o,h.get? c=some o/\∀v,o.data≠.cell v:=fun c hc=>by
 have hc:c=e∨c=b:=by simpa using hc
 rcases hc with rfl|rfl
 ·obtain ⟨⟨old,q⟩,_⟩:=st
  exact ⟨_,q,fun v z=>by
   have z:Data.fields _=Data.cell v:=z
   cases z⟩
 ·exact hT h st.2
theorem zj2 {h:Heap}{a b:Addr}{c d:Value}{p q:Obj->Prop}(ha:∃o,h.get? a=some o/\o.cls=c/\p o) (hb:∃o,h.get? b=some o/\o.cls=d/\q o) (n:c≠d):a≠b:=by
 rintro rfl
 obtain ⟨o,e,c1,_⟩:=ha
 obtain ⟨o2,e2,c2,_⟩:=hb
 rw [e] at e2;cases e2
 exact n (c1.symm.trans c2)
theorem zma {X:Cx}{pins:List (Addr × Obj)}{σ:L2.St}{H:Hp}{s:Shared}{e b:Addr}{i tk:Nat}{x:V}{u:Value}{h1 h2:Heap}{J:It}{T:Heap->Prop}(I:Inv X pins σ H s) (hf:∀c∈[e,b],zdf X pins H c) (ru:RelV x u)
  (le:e<s.heap.objs.size) (lb:b<s.heap.objs.size) (hk:∀c o,c≠e->c≠b->s.heap.get? c=some o->h1.get? c=some o) (hT:h1.get? s.heap.objs.size=some { cls:=.type "tuple",data:=.seq #[.int i tk,u] })
  (he2:IsEnum h2 e b ((i:Int)+1) u) (hs2:Heap.SameBut e h1 h2) (t2:T h2) (y:J.yld i H x H) :
  ∃x1 H1,Inv X pins σ H1 { s with heap:=h2,toks:=tk+1 }/\RelV x1 (.ref s.heap.objs.size)/\(Itn J).yld i H x1 H1/\((∃old,IsEnum h2 e b ((i+1:Nat):Int) old)/\T h2)/\∀c∈[e,b],H1 c=none:=by
 have hn:H s.heap.objs.size=none:=I.hok.fresh (qlr _)
 refine ⟨.ref s.heap.objs.size,upd H s.heap.objs.size (.tup [.int i,x]),?_,rfl,⟨x,s.heap.objs.size,y,hn,rfl,rfl⟩,⟨⟨u,by simpa using he2⟩,t2⟩,fun c hc=>?_⟩
 ·refine Inv.dealt (us:=[.int i tk,u]) I hf (fun c o hc q=>?_) ⟨_,(hs2.2 _ (Nat.ne_of_gt le)).trans hT,rfl,_,rfl⟩ (.cons ⟨tk,rfl⟩ (.cons ru .nil)) (by show 2<=sizeLine;decide)
  have h3:c≠e/\c≠b:=⟨fun z=>hc (by simp [z]),fun z=>hc (by simp [z])⟩
  exact (hs2.2 c h3.1).trans (hk c o h3.1 h3.2 q)
 ·have:c≠s.heap.objs.size:=by
   have hc:c=e∨c=b:=by simpa using hc
   rcases hc with rfl|rfl
   ·exact Nat.ne_of_lt le
   ·exact Nat.ne_of_lt lb
  rw [zar this];exact (hf c hc).1
theorem zz5 (a e b:Addr) (heb:e≠b):Turn P w K (.Tuple elts z tp) (Itn (Itl K a)) [e,b] e (fun i h=>(∃old,IsEnum h e b i old)/\h.IsListIter b a i) where
 mem:=by simp
 obj:=fun i h st=>zl9 (T:=fun h=>h.IsListIter b a i) (fun h ⟨o,q,c,d⟩=>⟨o,q,fun v z=>by rw [d] at z;cases z⟩) i h st
 keep:=fun i h h1 st k=>⟨let ⟨old,q⟩:=st.1;⟨old,k e (by simp) _ q⟩,st.2.at fun o q=>k b (by simp) o q⟩
 item:=by
  intro X hP hw hK hc i pins s σ H E I hf st hg
  subst hP hw hK
  obtain ⟨xs,x,hq,hx⟩:=hg
  obtain ⟨its,rv,p,hz⟩:=I.list hq
  obtain ⟨u,hu,ru⟩:=rv.get hx
  obtain ⟨⟨old,he⟩,hb⟩:=st
  have nab:a≠b:=zj2 p.isList hb (by decide)
  have nae:a≠e:=zj2 (d:=.type "enumerate") (q:=fun _=>True) p.isList ⟨_,he,rfl,trivial⟩ (by decide)
  have hlt:i<its.toArray.size:=by simpa using (qme hu).1
  refine wpAny_pyNext_enum_itemD (Draws.list (A:=X.A.in1) (I.ok.hd hc) b a nab its.toArray) he ⟨hb,p.isList⟩ hlt heb (by simp [heb,nae.symm]) fun x1 h1 tk hP ho hs1 hT hsz hk=>?_
  have hx1:x1=u:=by
   have:its.toArray[i]? = some u:=by simpa using hu
   rw [this] at hP;exact (qoi hP).symm
  subst hx1
  obtain ⟨ob,gb,_⟩:=id hb
  refine ⟨_,rfl,wpAny_letOwnedTupleGo_enum ho fun h2 he2 hs2=>?_⟩
  replace hs2:Heap.SameBut e h1 h2:=hs2
  exact zma (J:=Itl X.K a) (T:=fun h=>h.IsListIter b a (i+1)) I hf ru (Heap.lt_size he) (Heap.lt_size gb) hk hT he2 hs2 (hs1.1.at fun o q=>(hs2.2 b heb.symm).trans q) ⟨rfl,fun ys hy=>by rw [I.list_inj hy hq];exact hx⟩
 done:=by
  intro X hP hw hK hc i pins s σ H E I hf st hg
  subst hP hw hK
  obtain ⟨xs,hq,hx⟩:=hg
  obtain ⟨its,rv,p,hz⟩:=I.list hq
  obtain ⟨⟨old,he⟩,hb⟩:=st
  obtain ⟨f0,f1,f2,f3,f4,f5⟩:=hf b (by simp)
  have hl:=rv.length
  exact wpAny_pyNext_enum_end (I.ok.hd hc) he hb p.isList (by simp;omega) fun h1 eb=>⟨rfl,I.turned (t':=s.toks) (fun c o hb q=>eb c o hb q) f0 f1 f3 f4 f5⟩
 self:=fun A i s Q E st h=>let ⟨old,q⟩:=st.1;wpAny_pyIter_enum q h
theorem zz6 {A:Around}{E:Value->Shared->Prop}{s:Shared}{e b t:Addr}{n:Nat}{vs:Array Value}{old:Value}{Q:Option Value->Shared->Prop}(hA:A.handled=none) (he:IsEnum s.heap e b n old) (hb:s.heap.IsTupleIter b t n)
  (ht:s.heap.IsTuple t vs) (hu:vs[n]? = none) (q:∀h1,Heap.ExtBut b s.heap h1->Q none { s with heap:=h1 }):wpAny (model P w) A (pyNext (.ref e)) Q E s:=by
 have ty:s.TypeIs (.ref e) "enumerate":=⟨_,he,rfl⟩
 unfold pyNext
 refine wpAny_bind (wpAny_attempt (wpAny_callSpecial?_slot (name:=Str.ofString "__next__") ty F.slot_enumerate_next (wpAny_call_entry F.slot_enumerate_next ty F.entry_enumerate_next ?_ (F.args_enumerate_next_1 _))))
 show wpAny _ _ (field (.ref e) 2 >>= _) _ _ _
 refine wpAny_bind (wpAny_field he rfl (x:=.ref b) rfl ?_)
 refine wpAny_bind (zl8 hA hb ht hu fun h1 x q1 ⟨o,g,c⟩=>?_)
 exact wpAny_bind (wpAny_isInstance (T:="StopIteration") (b:=true) ⟨o,g,c⟩ isSubtype_stop (wpAny_pure (q _ q1)))
theorem zz7 (a e b:Addr) (heb:e≠b):Turn P w K (.Tuple elts z tp) (Itn (Itt K a)) [e,b] e (fun i h=>(∃old,IsEnum h e b i old)/\h.IsTupleIter b a i) where
 mem:=by simp
 obj:=fun i h st=>zl9 (T:=fun h=>h.IsTupleIter b a i) (fun h ⟨o,q,c,d⟩=>⟨o,q,fun v z=>by rw [d] at z;cases z⟩) i h st
 keep:=fun i h h1 st k=>⟨let ⟨old,q⟩:=st.1;⟨old,k e (by simp) _ q⟩,let ⟨o,q,r⟩:=st.2;⟨o,k b (by simp) o q,r⟩⟩
 item:=by
  intro X hP hw hK hc i pins s σ H E I hf st hg
  subst hP hw hK
  obtain ⟨xs,x,hq,hx⟩:=hg
  obtain ⟨its,rv,p,hz⟩:=I.tuple hq
  obtain ⟨u,hu,ru⟩:=rv.get hx
  obtain ⟨⟨old,he⟩,hb⟩:=st
  have p:s.heap.IsTuple a its.toArray:=p
  have nab:a≠b:=zj2 p hb (by decide)
  have nae:a≠e:=zj2 (d:=.type "enumerate") (q:=fun _=>True) p ⟨_,he,rfl,trivial⟩ (by decide)
  have hlt:i<its.toArray.size:=by simpa using (qme hu).1
  refine wpAny_pyNext_enum_itemD (zqn (A:=X.A.in1) (I.ok.hd hc) b a nab its.toArray) he ⟨hb,p⟩ hlt heb (by simp [heb,nae.symm]) fun x1 h1 tk hP ho hs1 hT hsz hk=>?_
  have hx1:x1=u:=by
   have:its.toArray[i]? = some u:=by simpa using hu
   rw [this] at hP;exact (qoi hP).symm
  subst hx1
  obtain ⟨ob,gb,_⟩:=id hb
  refine ⟨_,rfl,wpAny_letOwnedTupleGo_enum ho fun h2 he2 hs2=>?_⟩
  replace hs2:Heap.SameBut e h1 h2:=hs2
  exact zma (J:=Itt X.K a) (T:=fun h=>h.IsTupleIter b a (i+1)) I hf ru (Heap.lt_size he) (Heap.lt_size gb) hk hT he2 hs2 (hs1.1.extBut hs2.extBut heb.symm) ⟨rfl,fun ys hy=>by rw [I.tuple_inj hy hq];exact hx⟩
 done:=by
  intro X hP hw hK hc i pins s σ H E I hf st hg
  subst hP hw hK
  obtain ⟨xs,hq,hx⟩:=hg
  obtain ⟨its,rv,p,hz⟩:=I.tuple hq
  obtain ⟨⟨old,he⟩,hb⟩:=st
  obtain ⟨f0,f1,f2,f3,f4,f5⟩:=hf b (by simp)
  have hl:=rv.length
  exact zz6 (I.ok.hd hc) he hb p (by simp;omega) fun h1 eb=>⟨rfl,I.turned (t':=s.toks) (fun c o hb q=>eb c o hb q) f0 f1 f3 f4 f5⟩
 self:=fun A i s Q E st h=>let ⟨old,q⟩:=st.1;wpAny_pyIter_enum q h
end
open AutoSeq1
theorem zz8 (t:Addr) (vs:Array Value) (m:Nat) (dc:Option Addr) (sl:Array (Option Value)) :
  Meets (Builtin.«enumerate.__new__» ⟨[.type "enumerate",.ref t],[]⟩) (fun _ R s=>s.heap.get? t=some { cls:=.type "tuple",dict:=dc,data:=.seq vs m,slots:=sl } /\
   R (.ok (.ret (.ref (s.heap.push { cls:=.type "tuple_iterator",data:=.fields #[.ref t,.int 0 0] }).objs.size)))
    { s with heap:=(s.heap.push { cls:=.type "tuple_iterator",data:=.fields #[.ref t,.int 0 0] }).push { cls:=.type "enumerate",data:=.fields #[.none,.bool false,.ref s.heap.objs.size,rawInt 0,.none,.none] } }) :=
 .of_wp fun prog w A R s hx1_=>by
  obtain ⟨ht,h⟩:=hx1_
  have sub1:=sub_enumerate
  obtain ⟨hp,g,d,tk,os⟩:=s
  have tt:Heap.IsTuple (Shared.heap ⟨hp,g,d,tk,os⟩) t vs:=⟨_,ht,rfl,m,rfl⟩
  wp_walk using wpAny_loadPart' ht
  refine wpAny_stack_any fun _=>wpAny_pure ?_
  split
  ·rename_i c _ _ _ _ _
   cases (c == Value.type "enumerate") <;> (wp_walk using wpAny_loadPart' ht,wpAny_pyIter_tuple tt;exact ⟨_,rfl,h⟩)
  ·wp_walk using wpAny_loadPart' ht,wpAny_pyIter_tuple tt
   exact ⟨_,rfl,h⟩
section
variable {prog:Program}{w:World}{A:Around}{E:Value->Shared->Prop}{s:Shared}
theorem zz9 {t:Addr}{vs:Array Value}{Q:Value->Shared->Prop}(ht:s.heap.IsTuple t vs)
  (q:∀h1,IsEnum h1 (s.heap.objs.size+1) s.heap.objs.size 0 .none->h1.IsTupleIter s.heap.objs.size t 0->(∀b o,s.heap.get? b=some o->h1.get? b=some o)->Q (.ref (s.heap.objs.size+1)) { s with heap:=h1 }) :
  wpAny (model prog w) A (call (.type "enumerate") [.ref t]) Q E s:=by
 obtain ⟨⟨c,dc,dt,sl⟩,gt,hc,m,hd⟩:=ht
 replace hc:c=.type "tuple":=hc
 replace hd:dt=.seq vs m:=hd
 subst hc hd
 refine callType_new F.called_enumerate (by decide) (F.typeCall_enumerate_1 _) (F.newCall_enumerate_1 _) (fun o=>F.args_object_init_2 o _) F.entry_enumerate_new (zz8 t vs m dc sl) ⟨gt,?_⟩
 have hz:(s.heap.push { cls:=.type "tuple_iterator",data:=.fields #[.ref t,.int 0 0] }).objs.size=s.heap.objs.size+1:=Heap.size_push ..
 show _/\_
 rw [hz]
 have he:IsEnum ((s.heap.push { cls:=.type "tuple_iterator",data:=.fields #[.ref t,.int 0 0] }).push { cls:=.type "enumerate",data:=.fields #[.none,.bool false,.ref s.heap.objs.size,rawInt 0,.none,.none] }) (s.heap.objs.size+1) s.heap.objs.size 0 .none:=by
  rw [←hz];exact Heap.get?_push_size _ rfl
 exact ⟨⟨_,he,rfl⟩,q _ he ⟨_,qps _ (Heap.get?_push_size _ rfl),rfl,rfl⟩ fun b o x=>qps _ (qps _ x)⟩
end
theorem zmb:bootBuiltins "enumerate" = some (.type "enumerate"):=by decide +kernel
section
variable {X:Cx}{elts:List Expr}{z:Nat}{tp:Pos}
noncomputable def yaa (K:QFg) (ta:TA):TI:=fun σ H R=>ta σ H fun vs H1=>∃a,vs=[.ref a]/\(∃xs,SqL K H1 a xs)/\R (Itn (Itl K a)) H1
noncomputable def yab (K:QFg) (ta:TA):TI:=fun σ H R=>ta σ H fun vs H1=>∃a,vs=[.ref a]/\(∃xs,SqT K H1 a xs)/\R (Itn (Itt K a)) H1
theorem zj3 {pins:List (Addr × Obj)}{σ:L2.St}{H:Hp}{s:Shared}{R:It->Hp->Prop}{E:Value->Shared->Prop}{J:It}{T:Nat->Heap->Prop}{h1:Heap}(I:Inv X pins σ H s) (tu:Turn X.prog X.w X.K (.Tuple elts z tp) J [s.heap.objs.size+1,s.heap.objs.size] (s.heap.objs.size+1) (fun i h=>(∃old,IsEnum h (s.heap.objs.size+1) s.heap.objs.size i old)/\T i h))
  (he:IsEnum h1 (s.heap.objs.size+1) s.heap.objs.size 0 .none) (t0:T 0 h1) (hk:∀b o,s.heap.get? b=some o->h1.get? b=some o) (q:R J H):wpAny (model X.prog X.w) X.A (pyIter (.ref (s.heap.objs.size+1))) (PIE X pins σ (.Tuple elts z tp) R) E { s with heap:=h1 }:=by
 refine wpAny_pyIter_enum (s:={ s with heap:=h1 }) he ⟨_,_,_,J,H,rfl,I.kept (t':=s.toks) hk,tu,⟨⟨_,he⟩,t0⟩,fun c hc=>?_,q⟩
 have:s.heap.objs.size<=c:=by
  have hc:c=s.heap.objs.size+1∨c=s.heap.objs.size:=by simpa using hc
  rcases hc with rfl|rfl
  ·exact Nat.le_succ _
  ·exact qlr _
 exact I.fpOk this (I.hok.fresh this)
theorem yac {a:Expr}{ta:TA}{p pos:Pos}(hg:Gl X "enumerate") (hm:X.mg "enumerate" = none) (ha:PA X [a] ta) (hs:starEach [a] X.env=[(false,eval a X.env)]:=by rfl):PI X (.Tuple elts z tp) (.Call (.Name "enumerate" p) [a] [] pos) (yaa X.K ta):=by
 intro pins s σ H R I h
 refine Call_ (zfv I hg hm zmb (PyProof.Rows.callWith_type1 (thn (ha pos pins s σ H _ I h) fun us s1 ⟨vs,H1,I1,r1,q1⟩=>?_) hs rfl))
 obtain ⟨b,rfl,⟨xs,hq⟩,q⟩:=q1
 cases r1 with
 | cons r rr =>
  cases rr
  cases r
  obtain ⟨its,rv,pl,hz⟩:=I1.list hq
  exact call_enumerate_list pl.isList fun h1 he hb _ hk=>zj3 (T:=fun i h=>h.IsListIter s1.heap.objs.size b i) I1 (zz5 b _ _ (Nat.succ_ne_self _)) he hb hk q
theorem yad {a:Expr}{ta:TA}{p pos:Pos}(hg:Gl X "enumerate") (hm:X.mg "enumerate" = none) (ha:PA X [a] ta) (hs:starEach [a] X.env=[(false,eval a X.env)]:=by rfl):PI X (.Tuple elts z tp) (.Call (.Name "enumerate" p) [a] [] pos) (yab X.K ta):=by
 intro pins s σ H R I h
 refine Call_ (zfv I hg hm zmb (PyProof.Rows.callWith_type1 (thn (ha pos pins s σ H _ I h) fun us s1 ⟨vs,H1,I1,r1,q1⟩=>?_) hs rfl))
 obtain ⟨b,rfl,⟨xs,hq⟩,q⟩:=q1
 cases r1 with
 | cons r rr =>
  cases rr
  cases r
  obtain ⟨its,rv,pl,hz⟩:=I1.tuple hq
  exact zz9 (show s1.heap.IsTuple b its.toArray from pl) fun h1 he hb hk=>zj3 (T:=fun i h=>h.IsTupleIter s1.heap.objs.size b i) I1 (zz7 b _ _ (Nat.succ_ne_self _)) he hb hk q
end
noncomputable def zdx (it:ItM) (g:GM) (b:SM):Nat->Nat->SM
 | 0,_,_,_=>none
 | k+1,i,l,S=>(it i S).bind fun o=>match o with
  | none=>some (.nx,l,S)
  | some x=>(g x l S).bind fun p=>(b p.1 p.2).bind fun q=>match q.1 with
   | .nx=>zdx it g b k (i+1) q.2.1 q.2.2
   | .ct=>zdx it g b k (i+1) q.2.1 q.2.2
   | .bk=>some (.nx,q.2)
   | .rt d=>some (.rt d,q.2)
noncomputable def zit (im:IM) (g:GM) (b:SM):SM:=fun l S=>(im l S).bind fun p=>zdx p.1 g b p.2.1 0 l p.2.2
noncomputable def zj4 (K:QFg) (ρ:List Addr) (H:Hp) (it:ItM) (J:It):Prop:=∀(i:Nat) ρ' S' H',Ext ρ H ρ' H'->Sim K ρ' S' H' ->
 (it i S' = some none->J.stop i H')/\∀x,it i S' = some (some x)->J.go i H'/\∀y H'',J.yld i H' y H''->Ext ρ' H' ρ' H''/\Sim K ρ' S' H''/\RD ρ' H'' x y
noncomputable def itN (it:ItM):ItM:=fun i S=>(it i S).map fun o=>o.map fun x=>.tup [.int i,x]
section
variable {K:QFg}
theorem zmc {ρ:List Addr}{H:Hp}{it:ItM}{J:It}(h:ze0 K ρ H it J):zj4 K ρ H (itN it) (Itn J):=by
 intro i ρ1 S1 H1 e s
 obtain ⟨h1,h2⟩:=h i ρ1 S1 H1 e s
 unfold itN
 refine ⟨fun q=>?_,fun x q=>?_⟩
 ·cases hi:it i S1 with
  | none=>rw [hi] at q;cases q
  | some o =>
   cases o with
   | none=>exact h1 hi
   | some x=>rw [hi] at q;cases q
 ·cases hi:it i S1 with
  | none=>rw [hi] at q;cases q
  | some o =>
   cases o with
   | none=>rw [hi] at q;cases q
   | some y =>
    rw [hi] at q;cases q
    obtain ⟨q1,q2⟩:=h2 y hi
    refine ⟨q1,fun v H2 ⟨y2,p,hy1,hp,e1,e2⟩=>?_⟩
    subst e1 e2
    obtain ⟨_,r⟩:=q2 y2 H1 hy1
    exact ⟨zca hp,s.laid hp,.tup zcg (.cons (.int _) (.cons (r.mono (zca hp)) .nil))⟩
theorem yae {g:GM}{b:SM}{it:ItM}{J:It}{ρ:List Addr}{l:Lo}{S:Sto}{H:Hp}{σ:L2.St}{f:Fl}{l':Lo}{S':Sto}{E:Ends}{k:Nat}(ok:zj4 K ρ H it J)
  (sim:Sim K ρ S H) (ro:RO ρ H l σ) (hm:zdx it g b k 0 l S=some (f,l',S')) (p:∀ρ' H' σ',Ext ρ H ρ' H'->Sim K ρ' S' H'->RO ρ' H' l' σ'->zif ρ' H' E σ' f) :
  ∃W:Nat->Nat->L2.St->Hp->Prop,(∃m,W 0 m σ H)/\∀i m σ H,W i m σ H ->
   (J.stop i H/\E.nx σ H)∨(J.go i H/\∃N:L2.St->Hp->Prop,(∀σ' H',N σ' H'->∃m',m' < m/\W (i+1) m' σ' H')/\∀x H',J.yld i H x H'->tg K g x σ H' fun σ2 H2=>ts K b { E with nx:=N,ct:=N,bk:=E.nx } σ2 H2):=by
 refine ⟨fun i m σ1 H1=>∃ρ1 l1 S1,Ext ρ H ρ1 H1/\Sim K ρ1 S1 H1/\RO ρ1 H1 l1 σ1/\zdx it g b m i l1 S1=some (f,l',S'),⟨k,ρ,l,S,Ext.refl ..,sim,ro,hm⟩,?_⟩
 rintro i m σ1 H1 ⟨ρ1,l1,S1,e1,s1,ro1,hm1⟩
 cases m with
 | zero=>cases hm1
 | succ m =>
  unfold zdx at hm1
  obtain ⟨o,hi,hm1⟩:=bnd hm1
  obtain ⟨k1,k2⟩:=ok i ρ1 S1 H1 e1 s1
  cases o with
  | none=>cases hm1;exact .inl ⟨k1 hi,p ρ1 H1 σ1 e1 s1 ro1⟩
  | some x =>
   obtain ⟨k3,k4⟩:=k2 x hi
   refine .inr ⟨k3,_,fun σ' H' h=>h,fun y H2 hyl=>?_⟩
   obtain ⟨x2,s2,r2⟩:=k4 y H2 hyl
   refine zlr (next:=zdx it g b m (i+1)) s2 (ro1.mono x2) r2 hm1 (fun ρ' H' σ' e'=>p ρ' H' σ' ((e1.trans x2).trans e')) fun ρ3 H3 σ3 l3 S3 e3 s3 ro3 hm3=>?_
   exact ⟨m,Nat.lt_succ_self m,ρ3,l3,S3,(e1.trans x2).trans e3,s3,ro3,hm3⟩
end
section
variable {X:Cx}{elts:List Expr}{z:Nat}{tp:Pos}{a:Expr}{mA:AM}{g:GM}{b:SM}{body:List Stmt}{p0 pos' pos:Pos}
end
section
variable {prog:Program}{w:World}{A:Around}{E:Value->Shared->Prop}{s:Shared}
end
section
variable {X:Cx}{gs:GsM}{es:List Expr}{k n:Nat}{pos:Pos}
end
section
variable {X:Cx}{a:Expr}{ma:EM}{lo hi:Option Expr}{ml mh:OM}{p2 pos:Pos}
end
section
variable {X:Cx}{a b:Expr}{ma mb:EM}{mA:AM}{es:List Expr}{pos p:Pos}
end
noncomputable def zmd:D->D->Sto->Option (D × Sto)
 | .str z,.int i,S=>if z.length<=sizeLine then (atI z.cps.toList i).bind fun c=>some (.str ⟨#[c]⟩,S) else none
 | _,_,_=>none
noncomputable def zaj:D->D->Sto->Option (D × Sto):=fun x y S=>match dIx x y S with|some v=>some v|none=>zmd x y S
theorem yaf {K:QFg}:Op3 K zmd zld:=by
 intro ρ S H x y x' y' v S' Q sim rx ry h p
 unfold zmd at h
 split at h
 ·cases rx;cases ry
  split at h
  ·rename_i hz
   obtain ⟨c,h1,h⟩:=bnd h
   cases h
   exact ⟨_,_,c,rfl,rfl,hz,h1,p ρ H _ (Ext.refl ..) sim (.str _)⟩
  ·cases h
 ·cases h
theorem yag {K:QFg}:Op3 K zaj (rIx K):=by
 intro ρ S H x y x' y' v S' Q sim rx ry hm p
 unfold zaj at hm
 cases e:dIx x y S with
 | some w=>rw [e] at hm;cases hm;exact zyk ρ S H x y x' y' _ _ Q sim rx ry e p
 | none=>rw [e] at hm;exact .inr (.inr (yaf ρ S H x y x' y' _ _ Q sim rx ry hm p))
noncomputable def zbx:FM
 | [.str z],S=>if z.length<=sizeLine then some (.int z.length,S) else none
 | xs,S=>zik xs S
section
variable {X:Cx}{a b:Expr}{ma mb:EM}{mA:AM}{es:List Expr}{pos p:Pos}{K:QFg}
theorem zao (ha:PE3 X a ma) (hb:PE3 X b mb) (hs:zo3 b:=by intro _ _;rfl):PE3 X (.Subscript a b pos) (eOp zaj ma mb):=PE.imp (zxr zxt ha hb hs) (zjj yag)
theorem yah:Fn3 K zbx (fun xs H Q=>(∃p ys,xs=[.ref p]/\(SqL K H p ys∨SqT K H p ys)/\Q (.int ys.length) H)∨∃z,xs=[.str z]/\z.length<=sizeLine/\Q (.int z.length) H):=by
 intro ρ S H xs vs v S' Q sim r h p
 unfold zbx at h
 split at h
 ·obtain ⟨hz,e⟩:=zbk h
  cases e
  obtain ⟨w,rfl,rw'⟩:=r.one
  cases rw'
  exact .inr ⟨_,rfl,hz,p ρ H _ (Ext.refl ..) sim (.int _)⟩
 ·exact .inl (zyq ρ S H _ vs v S' Q sim r h p)
theorem zcn (hg:Gl X "len") (hm:X.mg "len" = none) (ha:PA3 X (a :: es) mA) (he:starEach (a :: es) X.env=(false,eval a X.env) :: starEach es X.env:=by rfl) (hpl:(backTo pos (starEach es X.env)).any (·.1)=false:=by rfl):PE3 X (.Call (.Name "len" p) (a :: es) [] pos) (zaf zbx mA) :=
 zlf (call_len_seq.or zx3) yah hg hm PySem.boot_len ha (by decide) (by decide) he hpl
end
section
variable {K:QFg}{ρ:List Addr}{H:Hp}{S:Sto}
end
section
variable {X:Cx}{a b e:Expr}{ma mb me:EM}{pos pos':Pos}{k:Nat}
theorem zme (hr:Room k X.A):X.A.units+1<cLine:=by have:=hr.un;omega
end
section
variable {X:Cx}{o i value:Expr}{mo mi mv:EM}{pos pos':Pos}{k:Nat}
end
section
variable {X:Cx}{pos:Pos}
end
section
variable {X:Cx}
variable {o e:Expr}{mo m:EM}{apos cpos:Pos}
end
noncomputable def sgn (z:Str):List D:=z.cps.toList.map fun c=>.str ⟨#[c]⟩
noncomputable def Its (z:Str):It:=⟨fun i _=>i<z.cps.size,fun i H x H'=>H' = H/\∃c,z.cps[i]? = some c/\x=.str ⟨#[c]⟩,fun i _=>z.cps.size<=i⟩
theorem zqo (z:Str):(sgn z).length=z.cps.size:=by simp [sgn]
theorem yai {K:QFg}{ρ:List Addr}{H:Hp}{z:Str}:ze0 K ρ H (itX (sgn z)) (Its z):=by
 intro i ρ' S' H' e s
 refine ⟨fun h=>?_,fun x h=>?_⟩
 ·have h:(sgn z)[i]? = none:=qoi h
  have:=List.getElem?_eq_none_iff.mp h
  rw [zqo] at this
  exact this
 ·have h:(sgn z)[i]? = some x:=qoi h
  have hl:=(qme h).1
  rw [zqo] at hl
  refine ⟨hl,fun y H'' ⟨e1,c,e2,e3⟩=>⟨e1,?_⟩⟩
  subst e3
  unfold sgn at h
  rw [qgm] at h
  have e4:z.cps.toList[i]? = some c:=by simpa using e2
  rw [e4] at h
  cases h
  exact .str _
section
variable {P:Program}{w:World}{K:QFg}{elts:List Expr}{z:Nat}{tp:Pos}
theorem zqp (x:Str) (t:Tok) (T:String) (e b:Addr) (heb:e≠b) (Dr:∀A:Around,A.handled=none->Draws P w A b [b] x.cps.size (fun i v=>∃c u,x.cps[i]? = some c/\v=.str ⟨#[c]⟩ u) (fun i h=>h.IsStrIter b T x t i)) :
  Turn P w K (.Tuple elts z tp) (Itn (Its x)) [e,b] e (fun i h=>(∃old,IsEnum h e b i old)/\(h.IsStrIter b T x t i/\i<=x.cps.size)) where
 mem:=by simp
 obj:=fun i h st=>zl9 (T:=fun h=>h.IsStrIter b T x t i/\i<=x.cps.size) (fun h ⟨⟨o,q,c,d⟩,_⟩=>⟨o,q,fun v z=>by rw [d] at z;cases z⟩) i h st
 keep:=fun i h h1 st k=>⟨let ⟨old,q⟩:=st.1;⟨old,k e (by simp) _ q⟩,let ⟨⟨o,q,r⟩,l⟩:=st.2;⟨⟨o,k b (by simp) o q,r⟩,l⟩⟩
 item:=by
  intro X hP hw hK hc i pins s σ H E I hf st hg
  subst hP hw hK
  obtain ⟨⟨old,he⟩,hb,hle⟩:=st
  have hlt:i<x.cps.size:=hg
  refine wpAny_pyNext_enum_itemD (Dr X.A.in1 (I.ok.hd hc)) he hb hlt heb (by simp [heb]) fun x1 h1 tk hP ho hs1 hT hsz hk=>?_
  obtain ⟨c,u,hc1,rfl⟩:=hP
  obtain ⟨ob,gb,_⟩:=id hb
  refine ⟨_,rfl,wpAny_letOwnedTupleGo_enum ho fun h2 he2 hs2=>?_⟩
  replace hs2:Heap.SameBut e h1 h2:=hs2
  exact zma (J:=Its x) (x:=.str ⟨#[c]⟩) (T:=fun h=>h.IsStrIter b T x t (i+1)/\i+1<=x.cps.size) I hf ⟨u,rfl⟩ (Heap.lt_size he) (Heap.lt_size gb) hk hT he2 hs2 ⟨let ⟨o,q,r⟩:=hs1;⟨o,(hs2.2 b heb.symm).trans q,r⟩,hlt⟩ ⟨rfl,c,hc1,rfl⟩
 done:=by
  intro X hP hw hK hc i pins s σ H E I hf st hg
  subst hP hw hK
  obtain ⟨⟨old,he⟩,hb,hle⟩:=st
  have hge:x.cps.size<=i:=hg
  have hi:i=x.cps.size:=by omega
  subst hi
  obtain ⟨f0,f1,f2,f3,f4,f5⟩:=hf b (by simp)
  exact wpAny_pyNext_enum_endD (Dr X.A.in1 (I.ok.hd hc)) he hb fun h1 eb=>⟨rfl,I.turned (t':=s.toks) (fun c o hb q=>eb c o hb q) f0 f1 f3 f4 f5⟩
 self:=fun A i s Q E st h=>let ⟨old,q⟩:=st.1;wpAny_pyIter_enum q h
end
section
variable {X:Cx}{elts:List Expr}{z:Nat}{tp:Pos}
noncomputable def yaj (ta:TA):TI:=fun σ H R=>ta σ H fun vs H1=>∃x,vs=[.str x]/\R (Itn (Its x)) H1
theorem yak {a:Expr}{ta:TA}{p pos:Pos}(hg:Gl X "enumerate") (hm:X.mg "enumerate" = none) (ha:PA X [a] ta) (hs:starEach [a] X.env=[(false,eval a X.env)]:=by rfl):PI X (.Tuple elts z tp) (.Call (.Name "enumerate" p) [a] [] pos) (yaj ta):=by
 intro pins s σ H R I h
 refine Call_ (zfv I hg hm zmb (PyProof.Rows.callWith_type1 (thn (ha pos pins s σ H _ I h) fun us s1 ⟨vs,H1,I1,r1,q1⟩=>?_) hs rfl))
 obtain ⟨x,rfl,q⟩:=q1
 cases r1 with
 | cons r rr =>
  cases rr
  obtain ⟨t,rfl⟩:=r
  refine call_enumerate_str fun h1 he hb _ hk=>?_
  cases hall:x.cps.all (· < 128)
  ·have hb':h1.IsStrIter s1.heap.objs.size "str_iterator" x t 0:=by simpa [strIterType,hall] using hb
   exact zj3 (T:=fun i h=>h.IsStrIter s1.heap.objs.size "str_iterator" x t i/\i<=x.cps.size) I1 (zqp x t _ _ _ (Nat.succ_ne_self _) fun A hA=>Draws.strWide hA _ x t) he ⟨hb',Nat.zero_le _⟩ hk q
  ·have hb':h1.IsStrIter s1.heap.objs.size "str_ascii_iterator" x t 0:=by simpa [strIterType,hall] using hb
   exact zj3 (T:=fun i h=>h.IsStrIter s1.heap.objs.size "str_ascii_iterator" x t i/\i<=x.cps.size) I1 (zqp x t _ _ _ (Nat.succ_ne_self _) fun A hA=>Draws.strAscii hA _ x t) he ⟨hb',Nat.zero_le _⟩ hk q
end
inductive tiL (K:QFg) (im:IM) (σ:St) (H:Hp) (R:It->Hp->Prop):Prop
 | mk (ρ:_) (l:_) (S:_) (it:_) (k:_) (S':_) (_:Sim K ρ S H) (_:RO ρ H l σ) (_:im l S=some (it,k,S')) (_:∀ρ' H' J,Ext ρ H ρ' H'->Sim K ρ' S' H'->zj4 K ρ' H' it J->R J H')
noncomputable def zj5 (X:Cx) (tgt iter:Expr) (im:IM):Prop:=PI X tgt iter (tiL X.K im)
noncomputable def zj6 (m:AM):IM:=fun l S=>(m l S).bind fun p=>match p.1 with
 | [.tup xs]=>some (itN (itX xs),xs.length+1,p.2)
 | [.ref n]=>(lstOf p.2 n).bind fun xs=>some (itN (itL n),xs.length+1,p.2)
 | [.str z]=>some (itN (itX (sgn z)),z.cps.size+1,p.2)
 | _=>none
section
variable {X:Cx}{elts:List Expr}{z:Nat}{tp:Pos}{a:Expr}{mA:AM}{g:GM}{b:SM}{body:List Stmt}{p0 pos' pos:Pos}
theorem yal (hgl:Gl X "enumerate") (hmg:X.mg "enumerate" = none) (ha:PA3 X [a] mA) (hst:starEach [a] X.env=[(false,eval a X.env)]:=by rfl):zj5 X (.Tuple elts z tp) (.Call (.Name "enumerate" p0) [a] [] pos') (zj6 mA) :=
 PI.imp (PI.or (PI.or (yac hgl hmg ha hst) (yad hgl hmg ha hst)) (yak hgl hmg ha hst)) fun σ H R hx1_=>by
  obtain ⟨ρ,l,S,it,k,S',sim,ro,hm,p⟩:=hx1_
  obtain ⟨⟨xs,S2⟩,q2,q1⟩:=bnd hm
  dsimp only at q1
  split at q1
  ·rename_i ys
   cases q1
   refine .inl (.inr ⟨ρ,l,S,[.tup ys],_,sim,ro,q2,fun ρ1 H1 vs e1 s1 r1=>?_⟩)
   obtain ⟨v,rfl,rv⟩:=r1.one
   cases rv with
   | @tup _ c us hc' r=>exact ⟨c,rfl,⟨us,SqT.of hc'⟩,p ρ1 H1 _ e1 s1 (zmc (zlv hc' r))⟩
  ·rename_i n
   obtain ⟨ys,hx,q1⟩:=bnd q1
   cases q1
   refine .inl (.inl ⟨ρ,l,S,[.ref n],_,sim,ro,q2,fun ρ1 H1 vs e1 s1 r1=>?_⟩)
   obtain ⟨v,rfl,rv⟩:=r1.one
   obtain ⟨c,us,hc',sq,rv'⟩:=s1.lstOf hx
   cases rv with
   | ref hn =>
    rw [hc'] at hn;cases hn
    exact ⟨c,rfl,⟨us,sq⟩,p ρ1 H1 _ e1 s1 (zmc (zlw hc'))⟩
  ·rename_i y
   cases q1
   refine .inr ⟨ρ,l,S,[.str y],_,sim,ro,q2,fun ρ1 H1 vs e1 s1 r1=>?_⟩
   obtain ⟨v,rfl,rv⟩:=r1.one
   cases rv
   exact ⟨y,rfl,p ρ1 H1 _ e1 s1 (zmc yai)⟩
  ·cases q1
theorem zqq {tgt iter:Expr}{im:IM}(hp:PassesOwn (model X.prog X.w) X.A X.env X.xe) (hc:X.calm=true) (hi:zj5 X tgt iter im) (hg:PG3 X tgt g) (hb:zc3 X body b) (hs:∀x,foldedSetIterable iter X.env x=pure x:=by intro _;rfl) :
  PS3 X (.For tgt iter body [] pos) (zit im g b) :=
 PS.imp (zjc hp hc hi hg hb hs) fun E σ H hx2_=>by
  obtain ⟨ρ,l,S,f,l',S',sim,ro,hm,p⟩:=hx2_
  obtain ⟨⟨it,k,S1⟩,q1,hm⟩:=bnd hm
  exact ⟨ρ,l,S,it,k,S1,sim,ro,q1,fun ρ1 H1 J e1 s1 ok=>yae ok s1 (ro.mono e1) hm fun ρ' H' σ' e'=>p ρ' H' σ' (e1.trans e')⟩
end
theorem yam {K:QFg}{im:IM}{ixs:List (Option Nat)}{g:GM}{t:TM}{e:EM}(σ:St) (H:Hp) (Q:VK) (q:te K (zct im ixs g t e) σ H Q):zin K (tiL K im) (zbz ixs) (tg K g) (tt K t) (te K e) σ H Q:=by
 obtain ⟨ρ,l,S,v,S',sim,ro,hm,p⟩:=q
 obtain ⟨⟨it,k,S1⟩,q1,hm⟩:=bnd hm
 obtain ⟨⟨all,S2⟩,q2,hm⟩:=bnd hm
 obtain ⟨hz,he⟩:=zbk hm
 cases he
 refine ⟨ρ,l,S,it,k,S1,sim,ro,q1,fun ρ1 H1 J e1 s1 io D hD hK=>?_⟩
 dsimp only at q2 hz p
 refine ⟨fun i m σ' H'=>CI3 K it g t e S2 all ρ1 H1 D i m σ' H',⟨k,?_⟩,?_⟩
 ·exact ⟨ρ1,zbz ixs l,S1,[],[],all,zca hD,s1.laid hD,(zqb ixs (ro.mono e1)).mono (zca hD),zcg,s1.notin hD hK,.nil,q2,rfl⟩
 ·rintro i m σ' H' ⟨ρ',l',S',ds,vs,rest,e2,s2,ro2,hD2,hn2,rd2,hc,hall⟩
  cases m with
  | zero=>cases hc
  | succ m =>
   unfold zc0 at hc
   obtain ⟨o,ho,hc⟩:=bnd hc
   obtain ⟨iStop,iGo⟩:=io i ρ' S' H' e2 s2
   cases o with
   | none =>
    cases hc
    rw [List.append_nil] at hall
    subst hall
    refine .inl ⟨iStop ho,p (ρ'++[D]) H' (.ref D) (e1.trans (e2.adopt hD)) (s2.adopt hD2 hn2 rd2) (.ref ?_)⟩
    rw [←s2.len];exact zfx ρ' D
   | some x =>
    obtain ⟨⟨l3,S3⟩,q3,hc⟩:=bnd hc
    obtain ⟨⟨b,S4⟩,q4,hc⟩:=bnd hc
    obtain ⟨hgo,hy⟩:=iGo x ho
    refine .inr ⟨hgo,_,fun σ' H' h=>h,fun y H'' hyl=>?_⟩
    obtain ⟨ex,sx,ry⟩:=hy y H'' hyl
    refine ⟨ρ',l',S',x,l3,S3,sx,ro2.mono ex,ry,q3,fun ρ3 H3 σ3 e3' s3 ro3=>⟨ρ3,l3,S3,b,S4,s3,ro3,q4,fun ρ4 H4 e4 s4=>?_⟩⟩
    have e3:=ex.trans e3'
    obtain ⟨hD3,hn3⟩:=e3.out D _ hD2 hn2
    obtain ⟨hD4,hn4⟩:=e4.out D _ hD3 hn3
    cases b with
    | false=>exact zew ⟨m,Nat.lt_succ_self m,ρ4,l3,S4,ds,vs,rest,e2.trans (e3.trans e4),s4,ro3.mono e4,hD4,hn4,rd2.mono (e3.trans e4),hc,hall⟩
    | true =>
     have hc:((e l3 S4).bind fun r=>(zc0 it g t e m (i+1) l3 r.2).bind fun z=>some (r.1 :: z.1,z.2))=some (rest,S2):=hc
     obtain ⟨⟨y5,S5⟩,q5,hc⟩:=bnd hc
     obtain ⟨⟨rest',S6⟩,q6,hc⟩:=bnd hc
     cases hc
     refine zex ⟨ρ4,l3,S4,y5,S5,s4,ro3.mono e4,q5,fun ρ5 H5 v5 e5 s5 r5=>?_⟩
     obtain ⟨hD5,hn5⟩:=e5.out D _ hD4 hn4
     have e25:=e2.trans (e3.trans (e4.trans e5))
     have rd5:=rd2.mono (e3.trans (e4.trans e5))
     have hlen:vs.length<sizeLine:=by
      have h1:=rd5.length
      have h2:=congrArg List.length hall
      rw [qla,List.length_cons] at h2
      omega
     refine ⟨vs,hD5,hlen,m,Nat.lt_succ_self m,ρ5,l3,S5,ds++[y5],vs++[v5],rest',e25.beside hD hD5,s5.beside hD5 hn5,?_,zcg,hn5,((rd5.append (.cons r5 .nil)).mono0 (zg5 hD5)),q6,by rw [←hall];simp⟩
     have r0:=(ro3.mono e4).mono e5
     exact ⟨r0.len,fun i d h=>let ⟨w,h1,h2⟩:=r0.get i d h;⟨w,h1,h2.mono0 (zg5 hD5)⟩⟩
theorem yan {X:Cx}{N':List Str}{elt iter tgt:Expr}{ifs:List Expr}{scope:Scope}{pos:Pos}{im:IM}{ixs:List (Option Nat)}{g:GM}{t:TM}{e:EM}(hcalm:X.calm=true) (sc:CompSc X N' scope (zbz ixs))
  (hi:zj5 X tgt iter im) (hg:∀C s H fp pins,PG3 (cxC X N' scope C s H fp pins) tgt g) (ht:∀C s H fp pins,PTs (cxC X N' scope C s H fp pins) ifs (tt X.K t)) (he:∀C s H fp pins,PE3 (cxC X N' scope C s H fp pins) elt e)
  (hs:∀x,foldedSetIterable iter X.env x=pure x:=by intro _;rfl):PE3 X (.ListComp elt [⟨tgt,iter,ifs,0⟩] scope pos) (zct im ixs g t e) :=
 PE.imp (zp9 (g:=tg X.K g) (tts:=tt X.K t) (t:=te X.K e) hcalm sc hi hg ht he hs) yam
section
variable {X:Cx}{a b:Expr}{ma mb:EM}{pos:Pos}{k:Nat}
end
noncomputable def yao:V->Option Int->Option Int->Hp->VK->Prop:=fun x lo hi H Q=>∃z,x=.str z/\z.length<=sizeLine/\Q (.str (Txt.slice z lo hi)) H
theorem zqr {v:Value}{o:Option Int}(h:IsPart v o):∃l:Option (Int × Tok),v=partValue l/\o=l.map (·.1):=by
 cases h with
 | none=>exact ⟨none,rfl,rfl⟩
 | int i t=>exact ⟨some (i,t),rfl,rfl⟩
theorem yap {X:Cx}:SlR X yao:=by
 intro pins s σ H x v vl vu lo hi sl Q I rx hs pl pu h
 obtain ⟨z,rfl,hz,q⟩:=h
 obtain ⟨t,rfl⟩:=rx
 obtain ⟨l,rfl,rfl⟩:=zqr pl
 obtain ⟨u,rfl,rfl⟩:=zqr pu
 refine ⟨"str",_,F.slot_str_getitem.lookup,typeIs_str _ _ _,?_⟩
 refine wpAny_getItem_str_slice (l:=l) (u:=u) (st:=none) hs rfl ?_
 refine post_val_or_str ⟨Nat.le_trans (Txt.slice_le z _ _) hz,fun t' k=>?_⟩
 exact ⟨.str _,H,I.tok _,⟨t',rfl⟩,q⟩
noncomputable def zb5 (m:EM) (lo hi:OM):EM:=fun l S=>(m l S).bind fun p=>(lo l p.2).bind fun q=>(hi l q.2).bind fun r=>match p.1 with
 | .tup xs=>some (.tup (zbw xs q.1 r.1),r.2)
 | .ref n=>(lstOf r.2 n).bind fun xs=>some (.ref r.2.length,r.2++[.lst (zbw xs q.1 r.1)])
 | .str z=>if z.length<=sizeLine then some (.str (Txt.slice z q.1 r.1),r.2) else none
 | _=>none
section
variable {X:Cx}{a:Expr}{ma:EM}{lo hi:Option Expr}{ml mh:OM}{p2 pos:Pos}
theorem zdb (he:PE3 X a ma) (hl:PO3 X lo ml) (hu:PO3 X hi mh):PE3 X (.Subscript a (.Slice lo hi none p2) pos) (zb5 ma ml mh):=PE.imp (zxp (((sl_tup.or zym).or zxz).or yap) he hl hu) fun σ H Q hx1_=>by
 obtain ⟨ρ,l,S,v,S',sim,ro,hm,p⟩:=hx1_
 obtain ⟨⟨x,S1⟩,h1,hm⟩:=bnd hm
 obtain ⟨⟨y,S2⟩,h2,hm⟩:=bnd hm
 obtain ⟨⟨z,S3⟩,h3,hm⟩:=bnd hm
 refine ⟨ρ,l,S,x,S1,sim,ro,h1,fun ρ1 H1 x' e1 s1 r1=>⟨ρ1,l,S1,y,S2,s1,ro.mono e1,h2,fun ρ2 H2 e2 s2=>⟨ρ2,l,S2,z,S3,s2,ro.mono (e1.trans e2),h3,fun ρ3 H3 e3 s3=>?_⟩⟩⟩
 have e13:=e1.trans (e2.trans e3)
 cases r1 with
 | @tup xs a vs ha r =>
  cases hm
  have ha3:=(e2.trans e3).tup _ _ ha
  have r3:=r.mono (e2.trans e3)
  have hlen:=r.length
  by_cases hw:HT.sIx vs.length 0 y=0/\HT.sIx vs.length vs.length z=vs.length
  ·refine .inl (.inl (.inr ⟨a,vs,rfl,SqT.of ha3,hw,?_⟩))
   have:=zyn xs y z (by rw [hlen];exact hw)
   dsimp only at p
   rw [this] at p
   exact p ρ3 H3 _ e13 s3 (.tup ha3 r3)
  ·refine .inl (.inl (.inl ⟨a,vs,rfl,SqT.of ha3,hw,?_⟩))
   have rc:RDs ρ3 H3 (zbw xs y z) (zd9 vs y z):=by
    unfold zbw zd9
    rw [hlen]
    exact (r3.drop _).take _
   exact zih s3 rc (Pv.ext p e13)
 | @ref j b hj =>
  obtain ⟨xs,hx,hm⟩:=bnd (show (lstOf S3 j).bind (fun xs=>some (D.ref S3.length,S3++[.lst (zbw xs y z)]))=some (v,S') from hm)
  cases hm
  obtain ⟨c,us,hc,sq,rv⟩:=s3.lstOf hx
  have:=(e2.trans e3).pre _ _ hj
  rw [this] at hc;cases hc
  have rc:RDs ρ3 H3 (zbw xs y z) (zd9 us y z):=by
   unfold zbw zd9
   rw [rv.length]
   exact (rv.drop _).take _
  exact .inl (.inr ⟨b,us,rfl,sq,zii s3 rc (Pv.ext p e13)⟩)
 | str t =>
  obtain ⟨hz,e⟩:=zbk (show (if t.length<=sizeLine then some (D.str (Txt.slice t y z),S3) else none)=some (v,S') from hm)
  cases e
  exact .inr ⟨t,rfl,hz,p ρ3 H3 _ e13 s3 (.str _)⟩
 | _=>cases hm
end
noncomputable def zmf:D->D->Sto->Option (D × Sto)
 | .str i,.str j,S=>if i.length+j.length<=sizeLine then some (.str (i++j),S) else none
 | _,_,_=>none
noncomputable def zaz:D->D->Sto->Option (D × Sto):=fun x y S=>match zmf x y S with|some v=>some v|none=>zlz x y S
theorem op3_plusS {K:QFg}:Op3 K zmf (fun x y H Q=>∃i j,x=.str i/\y=.str j/\i.length+j.length<=sizeLine/\Q (.str (i++j)) H):=by
 intro ρ S H x y x' y' v S' Q sim rx ry h p
 unfold zmf at h
 split at h
 ·obtain ⟨hz,e⟩:=zbk h
  cases e;cases rx;cases ry
  exact ⟨_,_,rfl,rfl,hz,p ρ H _ (Ext.refl ..) sim (.str _)⟩
 ·cases h
theorem zbb {X:Cx}{a b:Expr}{ma mb:EM}{pos:Pos}(ha:PE3 X a ma) (hb:PE3 X b mb):PE3 X (.BinOp a .Add b pos) (eOp zaz ma mb):=zg9 (op_add_str.or (op_add.or ((op_catT.or zyo).or zx8))) (op3_plusS.or zy7) ha hb
noncomputable def zhk:FM
 | [.str z],S=>(intText? z).bind fun n=>if z.length<=640 then some (.int n,S) else none
 | xs,S=>zlq xs S
section
variable {X:Cx}{a:Expr}{es:List Expr}{mA:AM}{pos p:Pos}{K:QFg}
theorem call_int_text:CallR X (.type "int") (fun xs H Q=>∃z n,xs=[.str z]/\intText? z=some n/\z.length<=640/\Q (.int n) H):=by
 intro pins s σ H xs us Q I r h
 obtain ⟨z,n,rfl,h1,h2,q⟩:=h
 obtain ⟨u,rfl,ru⟩:=zfw r
 obtain ⟨t,rfl⟩:=ru
 exact PySem.W.KIN.call_text h1 h2 ⟨.int n,H,I.tok _,⟨_,rfl⟩,q⟩
theorem yaq:Fn3 K zhk (fun xs H Q=>(∃z n,xs=[.str z]/\intText? z=some n/\z.length<=640/\Q (.int n) H)∨((∃i,xs=[.int i]/\Q (.int i) H)∨∃k,xs=[.bl k]/\Q (.int (if k then 1 else 0)) H)):=by
 intro ρ S H xs vs v S' Q sim r h p
 unfold zhk at h
 split at h
 ·obtain ⟨n,h1,h⟩:=bnd h
  obtain ⟨hz,e⟩:=zbk h
  cases e
  obtain ⟨w,rfl,rw'⟩:=r.one
  cases rw'
  exact .inl ⟨_,_,rfl,h1,hz,p ρ H _ (Ext.refl ..) sim (.int _)⟩
 ·exact .inr (zys ρ S H _ vs v S' Q sim r h p)
theorem zqs (hg:Gl X "int") (hm:X.mg "int" = none) (ha:PA3 X (a :: es) mA) (he:starEach (a :: es) X.env=(false,eval a X.env) :: starEach es X.env:=by rfl) (hpl:(backTo pos (starEach es X.env)).any (·.1)=false:=by rfl):PE3 X (.Call (.Name "int" p) (a :: es) [] pos) (zaf zhk mA) :=
 zpn (call_int_text.or zw3) yaq hg hm zy9 ha (by decide) (by decide) he hpl
end
section
variable {X:Cx}
variable {o e f:Expr}{mo m m':EM}{apos cpos:Pos}
end
noncomputable def zcc:List D->Option (List Int)
 | []=>some []
 | .int i :: r=>(zcc r).bind fun ns=>some (i :: ns)
 | _=>none
theorem zhl {ρ:List Addr}{H:Hp}:∀{xs:List D}{ns:List Int}{vs:List V},zcc xs=some ns->RDs ρ H xs vs->vs=ns.map V.int
 | [],ts,vs,h,r=>by cases h;cases r;rfl
 | x :: xs,ts,vs,h,r=>by
  cases r with
  | cons r1 r2 =>
   cases r1 with
   | int z =>
    obtain ⟨ts',h1,h⟩:=bnd (show (zcc xs).bind (fun ts=>some (z :: ts))=some ts from h)
    cases h
    rw [zhl h1 r2];rfl
   | _=>cases h
section
variable {X:Cx}
variable {a:Expr}{es:List Expr}{mA:AM}{p pos:Pos}
end
section
variable {prog:Program}{w:World}{A:Around}{E:Value->Shared->Prop}{s:Shared}
end
section
variable {P:Program}{w:World}{K:QFg}{tg:Expr}
end
section
variable {X:Cx}{tg:Expr}
end
section
variable {X:Cx}{tgt:Expr}{a:Expr}{mA:AM}{p0 pos':Pos}
end
section
variable {X:Cx}
theorem yar:bootBuiltins "sorted" = some (.builtin "sorted"):=by decide +kernel
variable {a:Expr}{es:List Expr}{mA:AM}{pos p:Pos}
end
section
variable {X:Cx}{a b:Expr}{ma mb:EM}{pos:Pos}
end
section
variable {prog:Program}{w:World}{A:Around}{R:Result->Shared->Prop}{s:Shared}
end
section
variable {K:QFg}{ρ:List Addr}{H:Hp}{S:Sto}
end
noncomputable def kD:Key->D
 | .inl i=>.int i
 | .inr x=>.str x
section
variable {X:Cx}{tg:Expr}
end
section
variable {X:Cx}{tgt iter:Expr}{m:EM}
end
section
variable {X:Cx}{a b:Expr}{ma mb:EM}{pos:Pos}{k:Nat}
end
open PySem.W
section
variable {M:Model}{A:Around}{E:Value->Shared->Prop}{s:Shared}{base:Heap}{env:Env}{outer:List Env}{L e C T:Addr}{Q:Unit->Shared->Prop}
end
section
variable {P:Program}{w:World}{K:QFg}{mg:Str->Option Value}{base:Heap}{N:List Str}{qual:Str}{scope:Scope}{f:Addr}{cd:Value}{A:Around}{outer:List Env}{s:Shared}{H:Hp}{E:XK}
end
noncomputable abbrev ZM:=Lo->Sto->Option (Str × Sto)
noncomputable abbrev ZF:=List D->Sto->Option (Str × Sto)
section
variable {X:Cx}{E:XK}{CA:Str->Addr}{e:Expr}{es:List Expr}{st:Stmt}{rest:List Stmt}{r q:ZM}{m:EM}{b:SM}{pos:Pos}
end
section
variable {X:Cx}{E:XK}{CA:Str->Addr}{a:Expr}{es:List Expr}{mA:AM}{pos p:Pos}{x:Str}{k j n:Nat}{rx:ZF}
end
section
variable {P:Program}{w:World}{K:QFg}{mg:Str->Option Value}{base:Heap}{N:List Str}{qual:Str}{scope:Scope}{f:Addr}{cd:Value}{A:Around}{outer:List Env}{s:Shared}{H:Hp}{E:XK}{CA:Str->Addr}
end
section
variable {M:Model}{A:Around}{E:Value->Shared->Prop}{s:Shared}{base:Heap}{env:Env}{outer l:List Env}{L e C T:Addr}{Q:Unit->Shared->Prop}
end
section
variable {X:Cx}{pins:List (Addr × Obj)}{σ:L2.St}{H:Hp}{s:Shared}{h':Heap}{a T:Addr}{t':Nat}
end
section
variable {M:Model}{A:Around}{E:Value->Shared->Prop}{h:Heap}{g:Array GenState}{d:Drawn}{t:Nat}{os:OsState}
variable {nm q nm' q':Str}{C N D N':Addr}{bs bm bs' bm':List Value}{hdct hdct':Bool}{sn sn':List Str}{sub sub':List Value}{ab ab':Bool}{col col':Option Bool}{dd dd':Option Addr}{k0 k1 k2 k3 k5 k0' k1' k2' k3' k5':Option Value}{newId newId':String}
end
section
variable {X:Cx}{pins:List (Addr × Obj)}{σ:L2.St}{H:Hp}{s:Shared}{a C T:Addr}{e:Value}
end
section
variable {X:Cx}{pins:List (Addr × Obj)}{σ:L2.St}{tS:TS}{i:Nat}{Dh:Addr}{n hx:Str}{np hpos:Pos}{b0:Stmt}{suite:List Stmt}
end
section
variable {X:Cx}{E:XK}{CA:Str->Addr}{a:Expr}{es:List Expr}{mA:AM}{cpos p apos py tpos:Pos}{x y:Str}{k j n:Nat}{rx:ZF}
variable {tN tS:TS}{i:Nat}{Dh:Addr}{nm hx:Str}{np hpos:Pos}{b0:Stmt}{suite:List Stmt}
end
section
variable {X:Cx}{E:XK}{CA:Str->Addr}{a:Expr}{es:List Expr}{mA:AM}{cpos p apos py tpos:Pos}{x y:Str}{k j n:Nat}{rx:ZF}{i:Nat}{Dh:Addr}{nm hx:Str}{np hpos:Pos}{b0:Stmt}{suite:List Stmt}{mN mS:SM}{ok:Str->Bool}
end
open PySem.Builtin PySem.Builtin.ObjectAttr PySem.Builtin.Getset_descriptor
section
variable {prog:Program}{w:World}{A:Around}{E:Value->Shared->Prop}{h:Heap}{g:Array GenState}{d:Drawn}{t:Nat}{os:OsState}{a:Addr}{o:Obj}{K:QFg}{C:Addr}
end
section
variable {prog:Program}{w:World}{A:Around}{E:Value->Shared->Prop}{h:Heap}{g:Array GenState}{d:Drawn}{t:Nat}{os:OsState}{a:Addr}{o:Obj}{K:QFg}{C:Addr}
end
section
variable {X:Cx}{es:List Expr}{Cs:List Addr}{y:Str}{C:Addr}{p:Pos}
end
section
variable {X:Cx}{a:Expr}{ma:EM}{pos p tp p2:Pos}{es:List Expr}{Cs:List Addr}{x1:Nat}{tab:List (Str × Bool)}{y:Str}{D0:Addr}
end
noncomputable def zqt (X:Cx) (T:String) (ty:V->Hp->Prop):Prop:=∀(pins:List (Addr × Obj)) (s:Shared) (σ:St) (H:Hp) (x:V) (v:Value),Inv X pins σ H s->RelV x v->ty x H ->
 s.TypeIs v T/\∀a,v=.ref a->∃ob,s.heap.get? a=some ob/\ob.dict=none
section
variable {X:Cx}{o e:Expr}{es:List Expr}{to:TE}{t:TA}{name:Str}{apos cpos:Pos}{T id:String}{r:V->List V->Hp->VK->Prop}{ty:V->Hp->Prop}
theorem yas (tok:zqt X T ty) (pa:PlainAttrs T) (slot:Slot T name id) (hty:typeOf (.builtin id)=pure (.type "method_descriptor")) (hm:MtM X id r) (ho:PE X o to) (ha:PA X (e :: es) t)
  (hbase:attributeBase o name X.env (eval o X.env)=eval o X.env:=by rfl)
  (hfew:((backTo cpos (starEach (e :: es) X.env)).all (fun x=>!x.1) && (backToKw cpos (keywordEach [] X.env)).all (fun x=>x.1.isSome)
   && decide ((e :: es).length+([]:List Keyword).length+(if ([]:List Keyword).isEmpty then 0 else 1)<30))=true:=by rfl)
  (hline:(apos.endLine == cpos.line)=true:=by rfl) (hs:starEach (e :: es) X.env=(false,eval e X.env) :: starEach es X.env:=by rfl) (hplain:(backTo cpos (starEach es X.env)).any (·.1)=false:=by rfl) :
  PE X (.Call (.Attribute o name apos) (e :: es) [] cpos) (fun σ H Q=>to σ H fun x H1=>ty x H1/\t σ H1 fun xs H2=>r x xs H2 Q):=by
 intro pins s σ H Q I h
 refine wpAny_Call_method_late hbase hfew hline rfl (thn (ho pins s σ H _ I h) fun v s1 ⟨x,H1,I1,r1,ty1,q1⟩=>?_)
 obtain ⟨h1,h2⟩:=tok pins s1 σ H1 x v I1 r1 ty1
 refine ⟨T,id,pa,slot,hty,h1,h2,?_⟩
 have hA:=ha cpos pins s1 σ H1 _ I1 q1
 rw [hs] at hA ⊢
 refine Calls.callWith_builtin (by show (false || (backTo cpos (starEach es X.env)).any (·.1))=false;rw [hplain] <;> rfl) (Calls.evalArgs_plain ?_)
 exact thn hA fun us s2 ⟨vs,H2,I2,r2,q2⟩=>hm pins s2 σ H2 x vs v us Q I2 r1 r2 q2
end
theorem yat (is:List Int):zcc (is.map D.int)=some is:=by
 induction is with
 | nil=>rfl
 | cons i r ih=>show (zcc (r.map D.int)).bind _=_;rw [ih];rfl
theorem zqu {P:Program}{w:World}:∀{ks:List Int}{us:List Value},Vals (ks.map V.int) us->ItemsAre (intKind P w) ks us
 | [],us,h=>by cases h;exact .nil
 | k :: ks,us,h=>by
  cases h with
  | cons r q=>obtain ⟨t,rfl⟩:=r;exact .cons (PySem.intKind_is P w k t) (zqu q)
theorem zf7 {P:Program}{w:World}{H:Hp}{h:Heap}{a:Addr}{ks:List Int}(ok:HOk P w H h) (e:H a=some (.tup (ks.map V.int))):TS.IsK P w h ks a:=by
 obtain ⟨_,its,r,o,h1,h2,n,h3⟩:=(show ObjOk P w H h a (.tup (ks.map V.int)) from ok a _ e)
 exact ⟨o,its.toArray,n,h1,h2,h3,by simpa using zqu r⟩
noncomputable def tyT (x:V) (H:Hp):Prop:=∃a xs,x=.ref a/\H a=some (.ext (TS.TSet a xs))
theorem ziu {X:Cx}{pins:List (Addr × Obj)}{σ:St}{H:Hp}{s:Shared}{a:Addr}{xs:List (List Int × Addr)}(I:Inv X pins σ H s) (h:H a=some (.ext (TS.TSet a xs))):TS.TSet a xs s.heap:=(I.hok a _ h).1
theorem zmg {P:Program}{w:World}{H:Hp}{h:Heap}{a:Addr}{xs:List (List Int × Addr)}(hT:TS.TSet a xs h):ObjOk P w H h a (.ext (TS.TSet a xs)) :=
 ⟨hT,let ⟨o,ho,_⟩:=hT;⟨o,ho⟩,fun h1 h2 ⟨o,ho,r⟩ k=>⟨o,k o ho,r⟩⟩
theorem yau {X:Cx}:zqt X "set" tyT:=fun pins s σ H x v I r hx1_=>by
 obtain ⟨a,xs,e,hH⟩:=hx1_
 subst e
 cases r
 exact ⟨(ziu I hH).typeIs,(ziu I hH).noDict⟩
theorem ziv (φ:Heap->Prop):zg6 (.ext φ):=⟨fun _ z=>(by cases z),fun _ _ z=>(by cases z)⟩
noncomputable def zqv:V->List V->Hp->VK->Prop:=fun x vs H Q=>∃a b k xs,x=.ref a/\vs=[.ref b]/\H a=some (.ext (TS.TSet a xs))/\(∀p∈xs,H p.2=some (.tup (p.1.map V.int)))/\H b=some (.tup (k.map V.int))/\xs.length<1000 /\
 (k∈xs.map (·.1)->Q .non H)/\(k ∉ xs.map (·.1)->Q .non (upd H a (.ext (TS.TSet a (xs++[(k,b)])))))
section
variable {X:Cx}{j:Nat}
theorem yav (hr:Room j X.A):MtM X "set.add" zqv:=by
 intro pins s σ H x vs v us Q I rx rv h
 obtain ⟨a,b,k,xs,rfl,rfl,hH,hxs,hb,hz,q1,q2⟩:=h
 cases rx
 obtain ⟨u,rfl,ru⟩:=rv.one
 cases ru
 have hT:=ziu I hH
 have hu:X.A.in1.units<cLine:=zme hr
 refine wpAny_call_entry F.slot_set_add hT.typeIs F.entry_set_add ?_ (F.args_set_add_2 _ _)
 unfold Builtin.«set.add» Builtin.Frozenset.oneOther;simp only [List.isEmpty_nil,bind_assoc];unfold Builtin.Frozenset.addrOf setAdd
 refine wpAny_bind (wpAny_pure ?_);try dsimp only
 refine wpAny_bind (wpAny_pure ?_);try dsimp only
 refine wpAny_bind (wpAny_holding ?_)
 refine wpAny_bind ((tupleKind (intKind X.prog X.w)).pyHash (k:=k) hu (zf7 I.hok hb) ?_)
 refine TS.setAdd_t (s:={ s with toks:=s.toks+(k.length+1) }) hu hT (fun p hp=>zf7 I.hok (hxs p hp)) (zf7 I.hok hb) hz (fun hin=>?_) fun hni h' sb hT'=>?_
 ·exact wpAny_pure ⟨_,rfl,.non,H,I.tok _,rfl,q1 hin⟩
 ·obtain ⟨o,ho,hto⟩:=id hT'
  refine wpAny_pure ⟨_,rfl,.non,_,I.write (x:=a) (e:=a) (o:=.ext (TS.TSet a (xs++[(k,b)]))) (t':=s.toks+(k.length+1)) (by rw [hH];exact trivial) (.inl rfl) (fun b o hb e=>sb.extBut b o hb e) ⟨o,ho⟩ (zmg hT'),rfl,q2 hni⟩
end
theorem yaw {S:Sto}{n:Nat}{o:Ob}(e:S[n]? = some o):S.set n o=S:=by
 apply List.ext_getElem?
 intro i
 by_cases c:n=i
 ·subst c;rw [List.getElem?_set_self (qme e).1,e]
 ·rw [List.getElem?_set_ne c]
noncomputable def zgs:D->List D->Sto->Option (D × Sto)
 | .ref n,[.tup ds],S=>match S[n]? with
  | some (.tset ks)=>(zcc ds).bind fun k=>if ks.length<1000 then some (.non,S.set n (.tset (if k∈ks then ks else ks++[k]))) else none
  | _=>none
 | _,_,_=>none
theorem yax {K:QFg}:Mt3 K zgs zqv:=by
 intro ρ S H x x' xs vs v S' Q sim rx r h p
 unfold zgs at h
 split at h
 ·split at h
  ·rename_i ks e
   obtain ⟨k,hk,h⟩:=bnd h
   obtain ⟨hz,e2⟩:=zbk h
   cases e2
   obtain ⟨w,rfl,rw'⟩:=r.one
   cases rx with
   | @ref n a hn =>
    cases rw' with
    | @tup _ b us hb rb =>
     obtain ⟨ys,hy,hH,hys⟩:=sim.at' _ a _ hn e
     have:=zhl hk rb
     subst this
     subst hy
     refine ⟨a,b,k,ys,rfl,rfl,hH,hys,hb,by simpa using hz,fun hin=>?_,fun hni=>?_⟩
     ·rw [if_pos hin,yaw e] at p
      exact p ρ H _ (Ext.refl ..) sim .non
     ·rw [if_neg hni] at p
      refine p ρ _ _ (zpi hn hH (ziv _)) (sim.setG hn e rfl hH (ziv _) ?_) .non
      refine ⟨ys++[(k,b)],by simp,zcg,fun q hq=>?_⟩
      refine (zey (ρ:=ρ) hH (ziv _)).tup _ _ ?_
      rcases List.mem_append.mp hq with hq|hq
      ·exact hys q hq
      ·rw [List.mem_singleton] at hq;subst hq;exact hb
  ·cases h
 ·cases h
noncomputable def zhm (S:Sto):D->Option Unit
 | .ref n=>match S[n]? with
  | some (.tset _)=>some ()
  | _=>none
 | _=>none
noncomputable def zj7 (f:D->List D->Sto->Option (D × Sto)) (o:EM) (as:AM):EM:=fun l S=>(o l S).bind fun p=>(zhm p.2 p.1).bind fun _=>(as l p.2).bind fun q=>f p.1 q.1 q.2
section
variable {X:Cx}{j:Nat}{o e:Expr}{mo m:EM}{apos cpos:Pos}
theorem yay (hr:Room j X.A) (ho:PE3 X o mo) (he:PE3 X e m)
  (hbase:attributeBase o "add" X.env (eval o X.env)=eval o X.env:=by rfl)
  (hfew:((backTo cpos (starEach [e] X.env)).all (fun x=>!x.1) && (backToKw cpos (keywordEach [] X.env)).all (fun x=>x.1.isSome)
   && decide ([e].length+([]:List Keyword).length+(if ([]:List Keyword).isEmpty then 0 else 1)<30))=true:=by rfl)
  (hline:(apos.endLine == cpos.line)=true:=by rfl) (hs:starEach [e] X.env=(false,eval e X.env) :: starEach [] X.env:=by rfl) :
  PE3 X (.Call (.Attribute o "add" apos) [e] [] cpos) (zj7 zgs mo (zac m zae)) :=
 PE.imp (yas yau PySem.F.plainAttrs_set PySem.F.slot_set_add PySem.F.type_set_add (yav hr) ho (zad he zah hs) hbase hfew hline hs rfl) fun σ H Q hx2_=>by
  obtain ⟨ρ,l,S,v,S',sim,ro,hq,p⟩:=hx2_
  obtain ⟨⟨x,S1⟩,h1,hq⟩:=bnd hq
  obtain ⟨_,h2,hq⟩:=bnd hq
  obtain ⟨⟨ys,S2⟩,h4,hq⟩:=bnd hq
  refine ⟨ρ,l,S,x,S1,sim,ro,h1,fun ρ1 H1 x' e1 s1 r1=>⟨?_,ρ1,l,S1,ys,S2,s1,ro.mono e1,h4,fun ρ2 H2 vs e2 s2 r2=>yax ρ2 S2 H2 x x' ys vs v S' Q s2 (r1.mono e2) r2 hq (p.ext (e1.trans e2))⟩⟩
  unfold zhm at h2
  dsimp only at h2
  split at h2
  ·split at h2
   ·rename_i ks e
    cases r1 with
    | @ref n a hn =>
     obtain ⟨ys,_,hH,_⟩:=s1.at' _ a _ hn e
     exact ⟨a,ys,rfl,hH⟩
   ·cases h2
  ·cases h2
noncomputable def zqw (neg:Bool):R2:=fun x y H Q=>∃b k a xs,x=.ref b/\y=.ref a/\H b=some (.tup (k.map V.int))/\H a=some (.ext (TS.TSet a xs))/\(∀p∈xs,H p.2=some (.tup (p.1.map V.int)))/\Q (.bl (if neg then !decide (k∈xs.map (·.1)) else decide (k∈xs.map (·.1)))) H
theorem yaz {pins:List (Addr × Obj)}{s:Shared}{σ:St}{H:Hp}{a b:Addr}{k:List Int}{xs:List (List Int × Addr)}{E:Value->Shared->Prop}{Q:Bool->Shared->Prop}(hr:Room j X.A) (I:Inv X pins σ H s) (hb:H b=some (.tup (k.map V.int))) (hH:H a=some (.ext (TS.TSet a xs))) (hxs:∀p∈xs,H p.2=some (.tup (p.1.map V.int)))
  (q:∀t',Q (decide (k∈xs.map (·.1))) { s with toks:=t' }):wpAny (model X.prog X.w) X.A (contains (.ref a) (.ref b)) Q E s:=by
 have hT:=ziu I hH
 have hu:X.A.in1.units<cLine:=zme hr
 unfold contains
 try with_reducible refine wpAny_holding ?_
 refine wpAny_bind (wpAny_specialOf hT.typeIs F.slot_set_contains.lookup ?_)
 show wpAny _ _ (if (some (Value.builtin "set.__contains__") == some Value.none)=true then _ else _) _ E s
 rw [if_neg (by rw [beq_builtin_none];exact Bool.false_ne_true)]
 refine wpAny_bind (wpAny_callSpecialUnlessNone?_slot (name:=Str.ofString "__contains__") hT.typeIs F.slot_set_contains (wpAny_call_entry F.slot_set_contains hT.typeIs entry_set_contains ?_ (F.args_set_contains_2 _ _)))
 unfold Builtin.«frozenset.__contains__» Builtin.Frozenset.oneOther;simp only [List.isEmpty_nil,bind_assoc];unfold Builtin.Frozenset.addrOf Builtin.Frozenset.withSetAsKey setContains
 refine wpAny_bind (wpAny_pure ?_);try dsimp only
 refine wpAny_bind (wpAny_pure ?_);try dsimp only
 refine wpAny_bind (wpAny_tryCatch (wpAny_holding ?_))
 refine wpAny_bind ((tupleKind (intKind X.prog X.w)).pyHash (k:=k) hu (zf7 I.hok hb) ?_)
 refine wpAny_bind (TS.setFind_t (s:={ s with toks:=s.toks+(k.length+1) }) hu hT (fun p hp=>zf7 I.hok (hxs p hp)) (zf7 I.hok hb) fun r hr'=>?_)
 refine wpAny_pure ?_
 show wpAny _ _ (ret (Value.bool r.isSome)) _ _ _
 rw [hr']
 exact wpAny_pure ⟨_,rfl,wpAny_truthy_bool (q _)⟩
theorem ya0 (hr:Room j X.A):OpR X (compareOp .NotIn) (zqw true):=by
 intro pins s σ H x y v u Q I rx ry h
 obtain ⟨b,k,a,xs,rfl,rfl,hb,hH,hxs,q⟩:=h
 cases rx;cases ry
 show wpAny _ _ (do return Value.bool (!(←contains (Value.ref a) (Value.ref b)))) _ _ s
 exact wpAny_bind (yaz hr I hb hH hxs fun t'=>wpAny_pure ⟨.bl _,H,I.tok _,rfl,q⟩)
noncomputable def zgt (neg:Bool):D->D->Sto->Option (D × Sto)
 | .tup ds,.ref n,S=>match S[n]? with
  | some (.tset ks)=>(zcc ds).bind fun k=>some (.bl (if neg then !decide (k∈ks) else decide (k∈ks)),S)
  | _=>none
 | _,_,_=>none
theorem ya1 {K:QFg}{neg:Bool}:Op3 K (zgt neg) (zqw neg):=by
 intro ρ S H x y x' y' v S' Q sim rx ry h p
 unfold zgt at h
 split at h
 ·split at h
  ·rename_i ks e
   obtain ⟨k,hk,h⟩:=bnd h
   cases h
   cases ry with
   | @ref n a hn =>
    cases rx with
    | @tup _ b us hb rb =>
     obtain ⟨ys,hy,hH,hys⟩:=sim.at' _ a _ hn e
     have:=zhl hk rb
     subst this
     subst hy
     exact ⟨b,k,a,ys,rfl,rfl,hb,hH,hys,p ρ H _ (Ext.refl ..) sim (.bl _)⟩
  ·cases h
 ·cases h
variable {a b:Expr}{ma mb:EM}{pos:Pos}
theorem ya2 (hr:Room j X.A) (ha:PE3 X a ma) (hb:PE3 X b mb) (hm:behindInMarks .NotIn b=false:=by rfl):PT3 X (.Compare a [.NotIn] [b] pos) (tE (eOp (zgt true) ma mb)):=zdo (ya0 hr) ya1 ha hb hm
theorem ya3 (h:Heap) (led:Bool):TS.TSet h.objs.size [] (h.push { cls:=.type "set",dict:=none,data:=.set #[] 0 (.fresh 0 0 led) }) :=
 ⟨_,Heap.get?_push_size _ rfl,⟨rfl,rfl,rfl⟩,#[],0,_,rfl,⟨rfl,rfl,⟨3,rfl,by decide⟩,fun i j _ h2=>absurd h2 (Nat.not_lt_zero _),fun j hx3_=>by obtain ⟨i,hi⟩:=hx3_;simp [SetTable.fresh] at hi,by show 0*5<7*3;decide,by show 7<8192;decide,fun i h v hi=>by simp at hi⟩,⟨fun e he=>by simp at he,fun p hp=>by simp at hp,rfl⟩⟩
theorem ya4 {q:Str}{t:TE}(hr:Room j X.A) (hcd:PySem.W.codeIn X.K X.env.code q=true) (he:PE X e t) (hroad:displayRoad 0 [e]=.oneByOne:=by rfl) (hstar:starEach [e] X.env=[(false,eval e X.env)]:=by rfl) :
  PE X (.Set [e] 0 pos) (fun σ H Q=>∀a,H a=none->t σ (upd H a (.ext (TS.TSet a []))) fun x H1=>∃b k,x=.ref b/\H1 b=some (.tup (k.map V.int))/\H1 a=some (.ext (TS.TSet a []))/\Q (.ref a) (upd H1 a (.ext (TS.TSet a [(k,b)])))):=by
 intro pins s σ H Q I h
 rw [arm_eval_Set]
 refine wpAny_bind (wpAny_standAt (wpAny_bind (zzw (PySem.W.codeRec_of I.kIn hcd) fun bb=>?_)))
 rw [hroad,hstar]
 have hu:X.A.units<cLine:=Nat.lt_of_succ_lt (zme hr)
 unfold setDisplay
 show wpAny _ _ (newSet (.type "set") >>= _) _ _ s
 unfold newSet setsByText
 refine wpAny_bind (wpAny_bind (wpAny_bind (wpAny_askSetting (wpAny_pure ?_))))
 dsimp only
 simp only [newObj]
 refine wpAny_bind (wpAny_alloc (wpAny_pure ?_))
 have hD:H s.heap.objs.size=none:=I.hok.fresh (qlr _)
 dsimp only
 generalize (!(_:Bool))=led
 have hT0:=ya3 s.heap led
 have I1:Inv X pins σ (upd H s.heap.objs.size (.ext (TS.TSet s.heap.objs.size []))) { s with heap:=s.heap.push { cls:=.type "set",dict:=none,data:=.set #[] 0 (.fresh 0 0 led) } }:=I.laid (t':=s.toks) (fun b o e=>qps _ e) (qlr _) (zmg hT0)
 refine wpAny_bind (wpAny_holding ?_)
 show wpAny _ _ (evalAll [_] >>= _) _ _ _
 refine wpAny_bind ?_
 show wpAny _ _ ((do let v ←eval e X.env;standAt pos;pure v) >>= _) _ _ _
 refine wpAny_bind (wpAny_bind (thn (he pins _ σ _ _ I1 (h _ hD)) fun v s2 hq2=>?_))
 obtain ⟨x,H2,I2,r2,b,k,ex,hb,hH2,q2⟩:=hq2
 subst ex
 cases r2
 refine wpAny_bind (wpAny_standAt (wpAny_pure ?_))
 refine wpAny_bind (wpAny_holding (wpAny_pure (wpAny_pure ?_)))
 refine wpAny_bind (wpAny_holding ?_)
 simp only [List.forIn_cons,List.forIn_nil,bind_assoc,pure_bind]
 refine wpAny_bind ?_
 unfold setAdd
 refine wpAny_holding (wpAny_bind ((tupleKind (intKind X.prog X.w)).pyHash (k:=k) hu (zf7 I2.hok hb) ?_))
 have hT2:TS.TSet s.heap.objs.size [] s2.heap:=ziu I2 hH2
 refine TS.setAdd_t (s:={ s2 with toks:=s2.toks+(k.length+1) }) hu hT2 (fun p hp=>by simp at hp) (zf7 I2.hok hb) (by decide) (fun hin=>by simp at hin) fun hni h' sb hT'=>?_
 obtain ⟨o,ho,hto⟩:=id hT'
 have I3:Inv X pins σ (upd H2 s.heap.objs.size (.ext (TS.TSet s.heap.objs.size [(k,b)]))) { s2 with heap:=h',toks:=s2.toks+(k.length+1) }:=I2.write (x:=s.heap.objs.size) (e:=s.heap.objs.size) (o:=.ext (TS.TSet s.heap.objs.size [(k,b)])) (t':=s2.toks+(k.length+1)) (by rw [hH2];exact trivial) (.inl rfl) (fun b o hb e=>sb.extBut b o hb e) ⟨o,ho⟩ (zmg hT')
 refine wpAny_pure (wpAny_pure ?_)
 exact wpAny_pure ⟨.ref s.heap.objs.size,_,I3,rfl,q2⟩
noncomputable def ziw (m:EM):EM:=fun l S=>(m l (S++[.tset []])).bind fun p=>match p.1 with
 | .tup ds=>(zcc ds).bind fun k=>match p.2[S.length]? with
  | some (.tset [])=>some (.ref S.length,p.2.set S.length (.tset [k]))
  | _=>none
 | _=>none
theorem ya5 {q:Str}{m:EM}(hr:Room j X.A) (hcd:PySem.W.codeIn X.K X.env.code q=true) (he:PE3 X e m) (hroad:displayRoad 0 [e]=.oneByOne:=by rfl) (hstar:starEach [e] X.env=[(false,eval e X.env)]:=by rfl) :
  PE3 X (.Set [e] 0 pos) (ziw m):=PE.imp (ya4 hr hcd he hroad hstar) fun σ H Q hx4_=>by
 obtain ⟨ρ,l,S,v,S',sim,ro,hm,p⟩:=hx4_
 obtain ⟨⟨x,S1⟩,q1,hm⟩:=bnd hm
 intro a ha
 have sim1:Sim X.K (ρ++[a]) (S++[.tset []]) (upd H a (.ext (TS.TSet a []))):=sim.pushG ha ⟨[],rfl,zcg,fun p hp=>by simp at hp⟩
 have ex:=zyd (ρ:=ρ) (u:=.ext (TS.TSet a [])) ha
 refine ⟨ρ++[a],l,S++[.tset []],x,S1,sim1,ro.mono ex,q1,fun ρ1 H1 x' e1 s1 r1=>?_⟩
 dsimp only at hm
 split at hm
 ·rename_i ds
  obtain ⟨k,hk,hm⟩:=bnd hm
  split at hm
  ·rename_i hS
   cases hm
   have hn:(ρ++[a])[S.length]? = some a:=by rw [←sim.len];exact zfx ρ a
   have hn1:=e1.pre _ _ hn
   cases r1 with
   | @tup _ b us hb rb =>
    have:=zhl hk rb
    subst this
    obtain ⟨ys,hy,hH,hys⟩:=s1.at' _ a _ hn1 hS
    have hy0:ys=[]:=by cases ys with|nil=>rfl|cons y ys=>simp at hy
    subst hy0
    refine ⟨b,k,rfl,hb,hH,?_⟩
    have ex2:=zpi (o:=.ext (TS.TSet a [(k,b)])) hn1 hH (ziv _)
    refine p ρ1 _ _ (ex.trans (e1.trans ex2)) (s1.setG hn1 hS rfl hH (ziv _) ⟨[(k,b)],rfl,zcg,fun q hq=>?_⟩) (.ref hn1)
    rw [List.mem_singleton] at hq;subst hq
    exact ex2.tup _ _ hb
  ·cases hm
 ·cases hm
end
section
variable {K:QFg}{ρ:List Addr}{H:Hp}{S:Sto}
end
noncomputable def Ro1 (ρ:List Addr) (H:Hp) (o:Option D) (o':Option V):Prop:=(o=none->o' = none)/\∀d,o=some d->∃v,o' = some v/\RD ρ H d v
theorem Ro1.isSome {ρ:List Addr}{H:Hp}{o:Option D}{o':Option V}(r:Ro1 ρ H o o'):o'.isSome=o.isSome:=by
 cases o with
 | none=>rw [r.1 rfl];rfl
 | some d=>obtain ⟨v,e,_⟩:=r.2 d rfl;rw [e];rfl
theorem Ro1.getD {ρ:List Addr}{H:Hp}{o:Option D}{o':Option V}(r:Ro1 ρ H o o') {z:D}{z':V}(rz:RD ρ H z z'):RD ρ H (o.getD z) (o'.getD z'):=by
 cases o with
 | none=>rw [r.1 rfl];exact rz
 | some d=>obtain ⟨v,e,q⟩:=r.2 d rfl;rw [e];exact q
section
variable {X:Cx}{a b e f o i value:Expr}{ma mb me mf mo mi mv:EM}{pos pos' apos cpos:Pos}{k:Nat}
end
section
variable {X:Cx}{pos:Pos}
end
section
variable {X:Cx}{o i value:Expr}{mo mi mv:EM}{pos pos':Pos}{k:Nat}
end
noncomputable def Fnc (K:QFg) (mg:Str->Option Value) (x:Str):Prop:=∃f o,PySem.W.nsIn K mainGlobals x=some (some (.ref f))/\K.lookup f=some o/\mg x=some (.ref f)
noncomputable def zmh (x:Str):EM:=fun _ S=>some (.ref S.length,S++[.fnc x])
section
variable {K:QFg}{ρ:List Addr}{H:Hp}{S:Sto}
theorem ya6 {a:Addr}(ha:H a=none):Ext ρ H (ρ++[a]) H :=
 ⟨ext0_push,fun b vs h n=>⟨h,fun i hi=>by
  rcases zbd hi with hi|⟨_,z⟩
  ·exact n i hi
  ·rw [z,ha] at h;cases h⟩⟩
theorem Sim.fnc {a:Addr}{x:Str}(s:Sim K ρ S H) (h1:PySem.W.nsIn K mainGlobals x=some (some (.ref a))) (h2:∃o,K.lookup a=some o):Sim K (ρ++[a]) (S++[.fnc x]) H:=by
 refine ⟨by simp [s.len],fun i j b x1 x2 g1 g2 g3 g4 m1 m2=>?_,fun n b o g1 g2=>?_⟩
 ·rcases zbd g3 with g3|⟨e3,f3⟩
  ·rcases zbd g4 with g4|⟨e4,f4⟩
   ·have l1:=(qme g3).1
    have l2:=(qme g4).1
    have l:=s.len
    rcases zbd g1 with g1|⟨q1,_⟩
    ·rcases zbd g2 with g2|⟨q2,_⟩
     ·exact s.nd i j b _ _ g1 g2 g3 g4 m1 m2
     ·omega
    ·omega
   ·subst f4;cases m2
  ·subst f3;cases m1
 ·rcases zbd g1 with g1|⟨e1,f1⟩
  ·rcases zbd g2 with g2|⟨e2,f2⟩
   ·exact (s.at' n b o g1 g2).more ext0_push
   ·have:=(qme g1).1;have:=s.len;omega
  ·subst f1
   rcases zbd g2 with g2|⟨e2,f2⟩
   ·have:=(qme g2).1;have:=s.len;omega
   ·subst f2
    exact ⟨h1,h2⟩
end
section
variable {X:Cx}{x y:Str}{pos p:Pos}{a:Expr}{es:List Expr}
theorem ya7 {f:Addr}{o:Obj}(hg:Gl X x) (hm:X.mg x=some (.ref f)) (hk:X.K.lookup f=some o) (hd:(x == ("__debug__":Str))=false:=by decide):PE X (.Name x pos) (fun _ H Q=>H f=none->Q (.ref f) H) :=
 fun _ _ _ H _ I h=>zn7 I hg hm ⟨.ref f,H,I,rfl,h (I.bs f o (I.ok.mod.kin f o hk)).2⟩ hd
theorem ya8 (F:Fnc X.K X.mg x) (hg:Gl X x) (hd:(x == ("__debug__":Str))=false:=by decide):PE3 X (.Name x pos) (zmh x):=by
 obtain ⟨f,o,h1,h2,h3⟩:=F
 refine PE.imp (ya7 hg h3 h2 hd) fun σ H Q ⟨ρ,l,S,v,S',sim,ro,hm,p⟩=>?_
 cases hm
 intro hf
 exact p (ρ++[f]) H _ (ya6 hf) (sim.fnc h1 ⟨o,h2⟩) (.ref (by rw [←sim.len];exact zfx ρ f))
theorem ya9 {tv:TE}{t:TA}{j:Nat}(hr:Room j X.A) (hv:PE X (.Name y p) tv) (ha:PA X (a :: es) t) (he:starEach (a :: es) X.env=(false,eval a X.env) :: starEach es X.env:=by rfl) (hpl:(backTo pos (starEach es X.env)).any (·.1)=false:=by rfl) :
  PE X (.Call (.Name y p) (a :: es) [] pos) (fun σ H Q=>tv σ H fun x H1=>∃f fd ps sp k,x=.ref f/\FnOk X.prog X.w X.K X.mg X.base CX0 k f fd ps sp/\k<=j/\PySem.W.keepIn X.K (.ref f)=true/\Binds X.K fd ps []/\zop sp [] E0 t σ H1 Q):=by
 intro pins s σ H Q I h
 refine wpAny_Call_Name_kw (thn (hv pins s σ H _ I h) fun u s0 ⟨x,H0,I0,rx,f,fd,ps,sp,k,ex,F,hkj,hk,hb,q0⟩=>?_)
 subst ex
 cases rx
 refine PySem.W.callWith_K (h₀:=X.base) I.ok.mod.kin hk (thn (ha pos pins s0 σ H0 _ I0 q0) fun us s1 ⟨vs,H1,I1,r,q⟩=>⟨I1.kIn,?_⟩) he hpl
 exact zoq F (hr.mono hkj) hb .nil zpg I1 r q
noncomputable def zhn (S:Sto):D->Option Str
 | .ref n=>match S[n]? with
  | some (.fnc x)=>some x
  | _=>none
 | _=>none
noncomputable def zj8 (tab:List (Str × FM)) (e:EM) (as:AM):EM:=fun l S=>(e l S).bind fun p=>(zhn p.2 p.1).bind fun x=>(tab.lookup x).bind fun m=>(as l p.2).bind fun q=>m q.1 q.2
theorem yba {j n:Nat}{me:EM}{mA:AM}{tab:List (Str × FM)}(hr:Room j X.A) (hv:PE3 X (.Name y p) me) (ha:PA3 X (a :: es) mA) (hl:∀l S v S',mA l S=some (v,S')->v.length=n)
  (ht:∀x m,tab.lookup x=some m->Fnc X.K X.mg x/\∃k,k<=j/\Has X.prog X.w X.K X.mg X.base x k n m)
  (he:starEach (a :: es) X.env=(false,eval a X.env) :: starEach es X.env:=by rfl) (hpl:(backTo pos (starEach es X.env)).any (·.1)=false:=by rfl) :
  PE3 X (.Call (.Name y p) (a :: es) [] pos) (zj8 tab me mA):=PE.imp (ya9 hr hv ha he hpl) fun σ H Q hx1_=>by
 obtain ⟨ρ,l,S,v,S',sim,ro,hq,p⟩:=hx1_
 obtain ⟨⟨x,S1⟩,h1,hq⟩:=bnd hq
 obtain ⟨nm,h2,hq⟩:=bnd hq
 obtain ⟨m,h3,hq⟩:=bnd hq
 obtain ⟨⟨xs,S2⟩,h4,hq2⟩:=bnd hq
 obtain ⟨⟨f,o,n1,n2,n3⟩,k,hk,f',fd,ps,F,hm,kp,hb⟩:=ht nm m h3
 have ef:f' = f:=by rw [n3] at hm;cases hm;rfl
 subst ef
 refine ⟨ρ,l,S,x,S1,sim,ro,h1,fun ρ1 H1 x' e1 s1 r1=>?_⟩
 unfold zhn at h2
 dsimp only at h2
 split at h2
 ·split at h2
  ·rename_i e
   cases h2
   cases r1 with
   | @ref _ a' hn =>
    obtain ⟨g1,_⟩:=s1.at' _ a' _ hn e
    rw [n1] at g1
    cases g1
    exact ⟨f',fd,ps,_,k,rfl,F,hk,kp,hb,ρ1,l,S1,xs,S2,s1,ro.mono e1,h4,fun ρ2 H2 vs e2 s2 r2=>⟨by rw [List.append_nil,←r2.length];exact hl _ _ _ _ h4,ρ2,xs,S2,v,S',s2,by rw [List.append_nil];exact r2,hq2,p.ext (e1.trans e2)⟩⟩
  ·cases h2
 ·cases h2
theorem ybb {R:Str->FM->Prop}{x:Str}{m:FM}(h:R x m):∀y m',([(x,m)]:List (Str × FM)).lookup y=some m'->R y m':=fun y m' e=>by
 rw [List.lookup_cons] at e
 split at e
 ·rename_i c
  cases e
  rw [eq_of_beq c];exact h
 ·cases e
end
section
variable {k:Nat}{names:List (Str × NameKind)}{acc:List (Str × Addr)}
end
end L3
namespace SP
open PySem PySem.W PyProof.Rows PySem.Calls
section
variable {prog:Program}{w:World}{A:Around}{E:Value->Shared->Prop}{s:Shared}
end
end SP
namespace L3
open PySem PySem.Spec PyProof.Rows L2
noncomputable def dPr:D->Option SP.Pr
 | .tup [.int a,.int b]=>some (a,b)
 | _=>none
noncomputable def pD (p:SP.Pr):D:=.tup [.int p.1,.int p.2]
noncomputable def zho:List D->Option (List SP.Pr)
 | []=>some []
 | d :: ds=>(dPr d).bind fun p=>(zho ds).bind fun ps=>some (p :: ps)
theorem ybc {d:D}{p:SP.Pr}(h:dPr d=some p):d=pD p:=by
 unfold dPr at h
 split at h
 ·cases h;rfl
 ·cases h
theorem zqx:∀{ds:List D}{ps:List SP.Pr},zho ds=some ps->ds=ps.map pD
 | [],ps,h=>by cases h;rfl
 | d :: ds,ps,h=>by
  obtain ⟨p,h1,h⟩:=bnd h
  obtain ⟨qs,h2,h⟩:=bnd h
  cases h
  rw [List.map_cons,ybc h1,zqx h2]
noncomputable def VP (H:Hp):List V->List SP.Pr->Prop:=Paired fun v p=>∃b,v=.ref b/\H b=some (.tup [.int p.1,.int p.2])
theorem zqy {ρ:List Addr}{H:Hp}:∀{ps:List SP.Pr}{vs:List V},RDs ρ H (ps.map pD) vs->VP H vs ps
 | [],vs,r=>by cases r;exact .nil
 | p :: ps,vs,r=>by
  cases r with
  | cons r1 r2 =>
   refine .cons ?_ (zqy r2)
   cases r1 with
   | tup hb rs =>
    obtain ⟨x,y,e,q1,q2⟩:=rs.two
    subst e
    cases q1;cases q2
    exact ⟨_,rfl,hb⟩
theorem ybd {ρ:List Addr}{H:Hp}{ps:List SP.Pr}{vs:List V}(h:VP H vs ps):RDs ρ H (ps.map pD) vs:=by
 induction h with
 | nil=>exact .nil
 | cons q _ ih =>
  obtain ⟨b,rfl,hb⟩:=q
  exact .cons (.tup hb (.cons (.int _) (.cons (.int _) .nil))) ih
noncomputable def RH (H:Hp) (v:Value) (p:SP.Pr):Prop:=∃b,v=.ref b/\H b=some (.tup [.int p.1,.int p.2])
theorem ybe {P:Program}{w:World}{H:Hp}{h:Heap}(ok:HOk P w H h) {v:Value}{p:SP.Pr}(x:RH H v p):SP.IsP h v p:=by
 obtain ⟨b,rfl,hb⟩:=x
 obtain ⟨_,its,rv,o,h1,h2,n,h3⟩:=(show ObjOk P w H h b (.tup _) from ok b _ hb)
 cases rv with
 | cons a1 a2 =>
  cases a2 with
  | cons a3 a4 =>
   cases a4
   obtain ⟨t1,rfl⟩:=a1
   obtain ⟨t2,rfl⟩:=a3
   exact ⟨b,o,t1,t2,n,rfl,h1,h2,h3⟩
theorem ybf {H:Hp}{vs:List V}{ps:List SP.Pr}(x:VP H vs ps):∀{us:List Value},Vals vs us->SP.TR (RH H) us ps:=by
 induction x with
 | nil=>intro us r;cases r;exact .nil
 | cons q _ ih =>
  intro us r
  cases r with
  | cons r1 r2 =>
   obtain ⟨b,rfl,hb⟩:=q
   cases r1
   exact .cons ⟨b,rfl,hb⟩ (ih r2)
theorem ybg {H:Hp}{us:List Value}{ps:List SP.Pr}(t:SP.TR (RH H) us ps):∃ws,Vals ws us/\VP H ws ps:=by
 induction t with
 | nil=>exact ⟨[],.nil,.nil⟩
 | cons q _ ih =>
  obtain ⟨ws,w1,w2⟩:=ih
  obtain ⟨b,rfl,hb⟩:=q
  exact ⟨.ref b :: ws,.cons rfl w1,.cons ⟨b,rfl,hb⟩ w2⟩
theorem VP.length {H:Hp}{vs:List V}{ps:List SP.Pr}(x:VP H vs ps):vs.length=ps.length:=Paired.length x
section
variable {X:Cx}
end
section
variable {X:Cx}{a:Expr}{es:List Expr}{mA:AM}{pos p:Pos}
end
end L3
namespace SP
open PySem PySem.W PyProof.Rows PySem.Calls
noncomputable def DAt (h:Heap) (d:Addr) (es:Array DictEntry) (ep:Nat):Prop:=∃o,h.get? d=some o/\o.ExactDict/\o.data=.dict es ep
section
variable {prog:Program}{w:World}{A:Around}{E:Value->Shared->Prop}{s:Shared}{d it:Addr}{es:Array DictEntry}{ep i:Nat}
theorem DAt.keep {h h':Heap}(x:DAt h d es ep) (k:∀o,h.get? d=some o->h'.get? d=some o):DAt h' d es ep:=let ⟨o,e,r⟩:=x;⟨o,k o e,r⟩
theorem DAt.ty (x:DAt s.heap d es ep):s.TypeIs (.ref d) "dict":=let ⟨o,e,c,_⟩:=x;⟨o,e,c.1⟩
end
end SP
namespace L3
open PySem PySem.Spec PyProof.Rows L2
section
variable {X:Cx}{tg:Expr}
end
section
variable {X:Cx}{tgt iter:Expr}{m:EM}
end
section
variable {X:Cx}
end
section
variable {X:Cx}{a:Expr}{es:List Expr}{mA:AM}{pos p:Pos}
end
section
variable {X:Cx}{a:Expr}
end
section
variable {prog:Program}{w:World}{A:Around}{E:Value->Shared->Prop}{s:Shared}{c:Addr}{i j:Int}{t u:Tok}
end
section
variable {X:Cx}
end
section
variable {X:Cx}{a:Expr}{es:List Expr}{mA:AM}{pos p:Pos}
end
section
variable {prog:Program}{w:World}{K:Type} [DecidableEq K] {knd:HeapKind prog w K}{A:Around}{E:Value->Shared->Prop}{s:Shared}{d a:Addr}{k:K}{xs:List (K × Addr × Value)}{z:Value}
end
section
variable {X:Cx}{o e f:Expr}{td ty tx:TE}{apos cpos:Pos}
end
section
variable {X:Cx}{o e f:Expr}{mo me mf:EM}{apos cpos:Pos}{k:Nat}
end
section
variable {h:Heap}{p:PyData}
end
section
variable {X:Cx}{k:Nat}
variable {a b:Expr}{ma mb:EM}{pos:Pos}
end
section
variable {X:Cx}{k:Nat}
variable {o e:Expr}{mo me:EM}{apos cpos:Pos}
end
section
variable {X:Cx}{o:Expr}{mo:EM}{apos cpos:Pos}
end
section
variable {X:Cx}{pos:Pos}{ke ve:Expr}
end
section
variable {X:Cx}{pos:Pos}{ke ve:Expr}{mk mv:EM}{k:Nat}
end
section
variable {X:Cx}
end
section
variable {X:Cx}{a:Expr}{es:List Expr}{mA:AM}{pos p:Pos}
end
section
variable {elt t1 i1 t2 i2:Expr}{ifs1 ifs2:List Expr}{scope:Scope}{pos:Pos}{it acc:Value}{env:Env}
noncomputable abbrev two (elt t1 i1 t2 i2:Expr) (ifs1 ifs2:List Expr) (scope:Scope) (pos:Pos):Expr:=.ListComp elt [⟨t1,i1,ifs1,0⟩,⟨t2,i2,ifs2,0⟩] scope pos
variable {prog:Program}{w:World}{A:Around}{R:Result->Shared->Prop}{s:Shared}
end
noncomputable abbrev RM:=Lo->Sto->Option ((Int × Nat) × Sto)
inductive tr (K:QFg) (r:RM) (σ:St) (H:Hp) (R:It->Hp->Prop):Prop
 | mk (ρ:_) (l:_) (S:_) (lo:_) (n:_) (S':_) (_:Sim K ρ S H) (_:RO ρ H l σ) (_:r l S=some ((lo,n),S')) (_:∀ρ' H',Ext ρ H ρ' H'->Sim K ρ' S' H'->R (Itr lo n) H')
section
variable {X:Cx}{tgt:Expr}{mA:AM}{p0 pos':Pos}{a a2:Expr}
end
theorem Inv.turnedL {X:Cx}{pins:List (Addr × Obj)}{σ:L2.St}{H:Hp}{s:Shared}{h':Heap}{t':Nat}{ch:List Addr}(I:Inv X pins σ H s) (hf:∀b∈ch,zdf X pins H b) (k:∀b o,b ∉ ch->s.heap.get? b=some o->h'.get? b=some o):Inv X pins σ H { s with heap:=h',toks:=t' }:=by
 have nf:∀b u,H b=some u->b ∉ ch:=fun b u e z=>by rw [(hf b z).1] at e;cases e
 refine I.step (g':=s.gens) (d':=s.drawn) (ch:=ch) (fun b hb=>?_) (fun b o _ _ hc e _=>k b o hc e) (fun b o _ _ hc e _=>⟨o.slots,k b o hc e⟩) (fun _ _ _ _ n=>n) (fun b o hc e=>⟨o,k b o hc e⟩) (fun _ _ e=>e) (fun _ _ _ e=>e) (fun b ps e=>⟨#[],by rw [e];simp⟩) (fun m hm=>?_) (fun b u e=>?_) I.bare
 ·obtain ⟨_,q1,_,q3,q4,q5⟩:=hf b hb
  exact ⟨q3,q1,q4,q5⟩
 ·obtain ⟨o,es,ep,ho,q⟩:=hm
  exact ⟨o,es,ep,k _ o (fun z=>(hf _ z).2.1 rfl) ho,q⟩
 ·refine (I.hok b u e).stay (fun c v hc q=>k c v ?_ q) (fun _ q=>q) fun _ _ q=>q
  rcases hc with z|z
  ·rw [z];exact nf b u e
  ·exact nf c _ z
section
variable {prog:Program}{w:World}{A:Around}{E:Value->Shared->Prop}{s:Shared}
variable {z TI TO i1 i2 c1 c2:Addr}{n1 n2 k:Nat}{P1 P2:Nat->Value->Prop}{T1 T2:Nat->Heap->Prop}{a b:Value}
theorem fr1 {h h':Heap}(D1:Draws prog w A i1 [i1,c1] n1 P1 T1) (st:T1 k h) {x:Addr}(sb:Heap.ExtBut x h h') (n1':i1≠x) (n2':c1≠x):T1 k h':=D1.frame k h h' st fun b hb o e=>by
 have hb:b=i1∨b=c1:=by simpa using hb
 rcases hb with rfl|rfl
 ·exact sb _ _ n1' e
 ·exact sb _ _ n2' e
theorem ybh {Q:Value->Shared->Prop}(D1:Draws prog w A i1 [i1,c1] n1 P1 T1) (D2:Draws prog w A i2 [i2,c2] n2 P2 T2) (G:ZipApart z TI TO i1 i2 c1 c2) (hz:IsZip s.heap z TI TO .none) (hI:IsPair s.heap TI (.ref i1) (.ref i2)) (hO:IsPair s.heap TO a b)
  (h1:T1 k s.heap) (h2:T2 k s.heap) (k1:k<n1) (k2:k<n2)
  (hQ:∀x y h' tk,P1 k x->P2 k y->IsZip h' z TI TO (rawInt s.heap.objs.size)->IsPair h' TO x y->T1 (k+1) h'->T2 (k+1) h'->IsPair h' s.heap.objs.size x y ->
   (∀c o,c≠z->c≠TO->c≠i1->c≠i2->s.heap.get? c=some o->h'.get? c=some o)->Q (.ref s.heap.objs.size) { s with heap:=h',toks:=tk }) :
  wpAny (model prog w) A (Builtin.«zip.__next__» ⟨[.ref z],[]⟩) (fun fin s'=>∃v,fin=.done (.ret v)/\Q v s') E s:=by
 show wpAny _ _ (field (.ref z) 2 >>= _) _ _ _
 refine wpAny_bind (wpAny_field hz rfl (x:=.bool false) rfl ?_)
 show wpAny _ _ (field (.ref z) 3 >>= _) _ _ _
 refine wpAny_bind (wpAny_field hz rfl (x:=.ref TI) rfl (wpAny_bind (wpAny_seqItems hI rfl ?_)))
 show wpAny _ _ (Builtin.SmallTypes.ownedTupleIsFree (.ref z) >>= _) _ _ _
 refine wpAny_bind ?_
 unfold Builtin.SmallTypes.ownedTupleIsFree
 refine wpAny_bind (wpAny_field hz rfl (x:=.none) rfl (wpAny_pure ?_))
 simp only [if_true]
 refine wpAny_bind (wpAny_rule (wpAny_bind (wpAny_field hz rfl (x:=.ref TO) rfl (wpAny_bind (wpAny_setField_rec hz (by simp) fun g1 z1 s1=>?_)))))
 replace z1:IsZip g1 z TI TO .ellipsis:=z1
 refine wpAny_bind ?_
 simp only [List.zipIdx_cons,List.zipIdx_nil,List.forIn_cons,List.forIn_nil]
 refine wpAny_bind (wpAny_bind (wpAny_onRaise ?_))
 show wpAny _ _ (Builtin.SmallTypes.nextOf (.ref i1) >>= _) _ _ _
 refine wpAny_bind (D1.item k _ _ _ k1 (fr1 D1 h1 s1.extBut G.i1z G.l1z) fun x g2 tk2 px t1 s2=>wpAny_pure ?_)
 have o2:IsPair g2 TO a b:=s2.extBut _ _ G.TOi1 (s1.extBut _ _ G.TOz hO)
 refine wpAny_bind (wpAny_seqItems o2 rfl (wpAny_bind (wpAny_updateSeq_pair o2 fun g3 o3 s3=>?_)))
 replace o3:IsPair g3 TO x b:=o3
 refine wpAny_bind (wpAny_letGo (wpAny_pure (wpAny_bind (wpAny_bind (wpAny_onRaise ?_)))))
 show wpAny _ _ (Builtin.SmallTypes.nextOf (.ref i2) >>= _) _ _ _
 have t2:T2 k g3:=fr1 D2 (fr1 D2 (fr1 D2 h2 s1.extBut G.i2z G.l2z) s2.extBut G.i12.symm G.l2i1) s3.extBut G.TOi2.symm G.l2TO
 refine wpAny_bind (D2.item k _ _ _ k2 t2 fun y g4 tk4 py u2 s4=>wpAny_pure ?_)
 have o4:IsPair g4 TO x b:=s4.extBut _ _ G.TOi2 o3
 refine wpAny_bind (wpAny_seqItems o4 rfl (wpAny_bind (wpAny_updateSeq_pair o4 fun g5 o5 s5=>?_)))
 replace o5:IsPair g5 TO x y:=o5
 refine wpAny_bind (wpAny_letGo (wpAny_pure (wpAny_pure (wpAny_bind (wpAny_seqItems o5 rfl (wpAny_bind (wpAny_newTuple ?_)))))))
 have sz:g5.objs.size=s.heap.objs.size:=by rw [s5.1,s4.1,s3.1,s2.1,s1.1]
 have z5:IsZip g5 z TI TO .ellipsis:=s5.extBut _ _ G.TOz.symm (s4.extBut _ _ G.i2z.symm (s3.extBut _ _ G.TOz.symm (s2.extBut _ _ G.i1z.symm z1)))
 have old5:∀c o,c≠z->c≠TO->c≠i1->c≠i2->s.heap.get? c=some o->g5.get? c=some o:=fun c o q1 q2 q3 q4 e=>s5.extBut _ _ q2 (s4.extBut _ _ q4 (s3.extBut _ _ q2 (s2.extBut _ _ q3 (s1.extBut _ _ q1 e))))
 have v1:T1 (k+1) g5:=fr1 D1 (fr1 D1 (fr1 D1 t1 s3.extBut G.TOi1.symm G.l1TO) s4.extBut G.i12 G.l1i2) s5.extBut G.TOi1.symm G.l1TO
 have v2:T2 (k+1) g5:=fr1 D2 u2 s5.extBut G.TOi2.symm G.l2TO
 have zl:z<g5.objs.size:=Heap.lt_size z5
 show wpAny _ _ (Builtin.SmallTypes.ownedTupleHandOut (.ref z) (.ref g5.objs.size) >>= _) _ _ _
 refine wpAny_bind ?_
 unfold Builtin.SmallTypes.ownedTupleHandOut
 have z6:IsZip (g5.push { cls:=.type "tuple",data:=.seq #[x,y] }) z TI TO .ellipsis:=qps _ z5
 refine wpAny_bind (wpAny_setField_rec z6 (by simp) fun g7 z7 s7=>?_)
 replace z7:IsZip g7 z TI TO (rawInt g5.objs.size):=z7
 refine wpAny_setField_rec z7 (by simp) fun g8 z8 s8=>?_
 replace z8:IsZip g8 z TI TO (rawInt g5.objs.size):=z8
 have rise:∀c o,c≠z->g5.get? c=some o->g8.get? c=some o:=fun c o q e=>s8.extBut _ _ q (s7.extBut _ _ q (qps _ e))
 have pr8:IsPair g8 g5.objs.size x y:=s8.extBut _ _ (Nat.ne_of_gt zl) (s7.extBut _ _ (Nat.ne_of_gt zl) (Heap.get?_push_size _ rfl))
 rw [sz] at z8 pr8
 refine wpAny_pure ⟨_,rfl,?_⟩
 show Q (.ref g5.objs.size) _
 rw [sz]
 exact hQ x y g8 _ px py z8 (rise _ _ G.TOz o5) (fr1 D1 v1 (x:=z) (fun c o q e=>rise c o q e) G.i1z G.l1z) (fr1 D2 v2 (x:=z) (fun c o q e=>rise c o q e) G.i2z G.l2z) pr8 fun c o q1 q2 q3 q4 e=>rise c o q1 (old5 c o q1 q2 q3 q4 e)
theorem ybi {Q:Fin->Shared->Prop}(D1:Draws prog w A i1 [i1,c1] n1 P1 T1) (G:ZipApart z TI TO i1 i2 c1 c2) (hz:IsZip s.heap z TI TO .none) (hI:IsPair s.heap TI (.ref i1) (.ref i2)) (hO:IsPair s.heap TO a b)
  (h1:T1 k s.heap) (hend:k=n1∨k<n1/\∃P2 T2,Draws prog w A i2 [i2,c2] k P2 T2/\T2 k s.heap)
  (hE:∀h' e tk,(∀c o,c≠z->c≠TO->c≠i1->c≠i2->s.heap.get? c=some o->h'.get? c=some o)->(∃o,h'.get? e=some o/\o.cls=.type "StopIteration")->E (.ref e) { s with heap:=h',toks:=tk }) :
  wpAny (model prog w) A (Builtin.«zip.__next__» ⟨[.ref z],[]⟩) Q E s:=by
 show wpAny _ _ (field (.ref z) 2 >>= _) _ _ _
 refine wpAny_bind (wpAny_field hz rfl (x:=.bool false) rfl ?_)
 show wpAny _ _ (field (.ref z) 3 >>= _) _ _ _
 refine wpAny_bind (wpAny_field hz rfl (x:=.ref TI) rfl (wpAny_bind (wpAny_seqItems hI rfl ?_)))
 show wpAny _ _ (Builtin.SmallTypes.ownedTupleIsFree (.ref z) >>= _) _ _ _
 refine wpAny_bind ?_
 unfold Builtin.SmallTypes.ownedTupleIsFree
 refine wpAny_bind (wpAny_field hz rfl (x:=.none) rfl (wpAny_pure ?_))
 simp only [if_true]
 refine wpAny_bind (wpAny_rule (wpAny_bind (wpAny_field hz rfl (x:=.ref TO) rfl (wpAny_bind (wpAny_setField_rec hz (by simp) fun g1 z1 s1=>?_)))))
 replace z1:IsZip g1 z TI TO .ellipsis:=z1
 refine wpAny_bind ?_
 simp only [List.zipIdx_cons,List.zipIdx_nil,List.forIn_cons,List.forIn_nil]
 refine wpAny_bind (wpAny_bind (wpAny_onRaise ?_))
 show wpAny _ _ (Builtin.SmallTypes.nextOf (.ref i1) >>= _) _ _ _
 have q1:=fr1 D1 h1 s1.extBut G.i1z G.l1z
 rcases hend with rfl|⟨k1,P2,T2,D2,h2⟩
 ·refine wpAny_bind (D1.done _ _ _ q1 fun g2 e s2 he=>?_)
  obtain ⟨oe,hoe,hce⟩:=he
  have z2:IsZip g2 z TI TO .ellipsis:=s2 _ _ G.i1z.symm z1
  have ez:e≠z:=fun x=>by subst x;rw [z2] at hoe;cases hoe;simp at hce
  refine wpAny_setField_rec z2 (by simp) fun g3 _ s3=>hE g3 e _ (fun c o c1 _ c3 _ x=>s3.extBut _ _ c1 (s2 _ _ c3 (s1.extBut _ _ c1 x))) ⟨oe,s3.extBut _ _ ez hoe,hce⟩
 ·refine wpAny_bind (D1.item k _ _ _ k1 q1 fun x g2 tk2 px t1 s2=>wpAny_pure ?_)
  have o2:IsPair g2 TO a b:=s2.extBut _ _ G.TOi1 (s1.extBut _ _ G.TOz hO)
  refine wpAny_bind (wpAny_seqItems o2 rfl (wpAny_bind (wpAny_updateSeq_pair o2 fun g3 o3 s3=>?_)))
  refine wpAny_bind (wpAny_letGo (wpAny_pure (wpAny_bind (wpAny_bind (wpAny_onRaise ?_)))))
  show wpAny _ _ (Builtin.SmallTypes.nextOf (.ref i2) >>= _) _ _ _
  have t2:T2 k g3:=fr1 D2 (fr1 D2 (fr1 D2 h2 s1.extBut G.i2z G.l2z) s2.extBut G.i12.symm G.l2i1) s3.extBut G.TOi2.symm G.l2TO
  refine wpAny_bind (D2.done _ _ _ t2 fun g4 e s4 he=>?_)
  obtain ⟨oe,hoe,hce⟩:=he
  have z4:IsZip g4 z TI TO .ellipsis:=s4 _ _ G.i2z.symm (s3.extBut _ _ G.TOz.symm (s2.extBut _ _ G.i1z.symm z1))
  have ez:e≠z:=fun x=>by subst x;rw [z4] at hoe;cases hoe;simp at hce
  refine wpAny_setField_rec z4 (by simp) fun g5 _ s5=>hE g5 e _ (fun c o q1 q2 q3 q4 x=>s5.extBut _ _ q1 (s4 _ _ q4 (s3.extBut _ _ q2 (s2.extBut _ _ q3 (s1.extBut _ _ q1 x))))) ⟨oe,s5.extBut _ _ ez hoe,hce⟩
end
section
variable {prog:Program}{w:World}{A:Around}{E:Value->Shared->Prop}{s:Shared}
variable {z TI TO i1 i2 c1 c2:Addr}{n1 n2 k:Nat}{P1 P2:Nat->Value->Prop}{T1 T2:Nat->Heap->Prop}{a b:Value}
theorem ybj {Q:Option Value->Shared->Prop}(D1:Draws prog w A.in1 i1 [i1,c1] n1 P1 T1) (D2:Draws prog w A.in1 i2 [i2,c2] n2 P2 T2) (G:ZipApart z TI TO i1 i2 c1 c2) (hz:IsZip s.heap z TI TO .none) (hI:IsPair s.heap TI (.ref i1) (.ref i2)) (hO:IsPair s.heap TO a b)
  (h1:T1 k s.heap) (h2:T2 k s.heap) (k1:k<n1) (k2:k<n2)
  (hQ:∀x y h' tk,P1 k x->P2 k y->IsZip h' z TI TO (rawInt s.heap.objs.size)->IsPair h' TO x y->T1 (k+1) h'->T2 (k+1) h'->IsPair h' s.heap.objs.size x y ->
   (∀c o,c≠z->c≠TO->c≠i1->c≠i2->s.heap.get? c=some o->h'.get? c=some o)->Q (some (.ref s.heap.objs.size)) { s with heap:=h',toks:=tk }) :
  wpAny (model prog w) A (pyNext (.ref z)) Q E s:=by
 have hT:s.TypeIs (.ref z) "zip":=⟨_,hz,rfl⟩
 unfold pyNext
 exact wpAny_bind (wpAny_attempt (wpAny_callSpecial?_slot (name:=Str.ofString "__next__") hT F.slot_zip_next (wpAny_call_entry F.slot_zip_next hT F.entry_zip_next (ybh D1 D2 G hz hI hO h1 h2 k1 k2 fun x y h' tk p1 p2 p3 p4 p5 p6 p7 p8=>wpAny_pure (hQ x y h' tk p1 p2 p3 p4 p5 p6 p7 p8)) (F.args_zip_next_1 _))))
theorem zqz {Q:Option Value->Shared->Prop}(D1:Draws prog w A.in1 i1 [i1,c1] n1 P1 T1) (G:ZipApart z TI TO i1 i2 c1 c2) (hz:IsZip s.heap z TI TO .none) (hI:IsPair s.heap TI (.ref i1) (.ref i2)) (hO:IsPair s.heap TO a b)
  (h1:T1 k s.heap) (hend:k=n1∨k<n1/\∃P2 T2,Draws prog w A.in1 i2 [i2,c2] k P2 T2/\T2 k s.heap)
  (hQ:∀h' tk,(∀c o,c≠z->c≠TO->c≠i1->c≠i2->s.heap.get? c=some o->h'.get? c=some o)->Q none { s with heap:=h',toks:=tk }):wpAny (model prog w) A (pyNext (.ref z)) Q E s:=by
 have hT:s.TypeIs (.ref z) "zip":=⟨_,hz,rfl⟩
 unfold pyNext
 refine wpAny_bind (wpAny_attempt (wpAny_callSpecial?_slot (name:=Str.ofString "__next__") hT F.slot_zip_next (wpAny_call_entry F.slot_zip_next hT F.entry_zip_next (ybi D1 G hz hI hO h1 hend fun h' e tk hk he=>?_) (F.args_zip_next_1 _))))
 obtain ⟨o,ho,hc⟩:=he
 exact wpAny_bind (wpAny_isInstance (T:="StopIteration") (b:=true) ⟨o,ho,hc⟩ isSubtype_stop (wpAny_pure (hQ _ _ hk)))
end
structure Zs (P:Program) (w:World) (K:QFg) (J:It) (b a:Addr) (tn:Nat->Heap->Prop):Prop where
 obj:∀i h,tn i h->∃o,h.get? b=some o/\∀v,o.data≠.cell v
 keep:∀i h h',tn i h->(∀o,h.get? b=some o->h'.get? b=some o)->tn i h'
 go:∀(X:Cx),X.prog=P->X.w=w->X.K=K->X.calm=true->∀(i:Nat) (pins:List (Addr × Obj)) (s:Shared) (σ:L2.St) (H:Hp),Inv X pins σ H s->tn i s.heap->J.go i H ->
  ∃n Pv St,Draws P w X.A.in1 b [b,a] n Pv St/\St i s.heap/\i<n/\(∀h',St (i+1) h'->tn (i+1) h')/\∀u,Pv i u->∃x,RelV x u/\J.yld i H x H
 stop:∀(X:Cx),X.prog=P->X.w=w->X.K=K->X.calm=true->∀(i:Nat) (pins:List (Addr × Obj)) (s:Shared) (σ:L2.St) (H:Hp),Inv X pins σ H s->tn i s.heap->J.stop i H ->
  ∃Pv St,Draws P w X.A.in1 b [b,a] i Pv St/\St i s.heap
theorem ybk {P:Program}{w:World}{K:QFg}(b a:Addr) (nab:a≠b):Zs P w K (Itl K a) b a (fun i h=>h.IsListIter b a i) where
 obj:=fun i h st=>by
  obtain ⟨o,q,c,d⟩:=st
  exact ⟨o,q,fun v z=>by rw [d] at z;cases z⟩
 keep:=fun i h h1 st k=>st.at fun o q=>k o q
 go:=by
  intro X hP hw hK hc i pins s σ H I st hg
  subst hP hw hK
  obtain ⟨xs,x,hq,hx⟩:=hg
  obtain ⟨its,rv,p,hz⟩:=I.list hq
  obtain ⟨u,hu,ru⟩:=rv.get hx
  have hlt:i<its.toArray.size:=by simpa using (qme hu).1
  refine ⟨_,_,_,Draws.list (A:=X.A.in1) (I.ok.hd hc) b a nab its.toArray,⟨st,p.isList⟩,hlt,fun h' q=>q.1,fun v hv=>⟨x,?_,rfl,fun ys hy=>by rw [I.list_inj hy hq];exact hx⟩⟩
  have:its.toArray[i]? = some u:=by simpa using hu
  rw [this] at hv
  exact (qoi hv) ▸ ru
 stop:=by
  intro X hP hw hK hc i pins s σ H I st hg
  subst hP hw hK
  obtain ⟨xs,hq,hx⟩:=hg
  obtain ⟨its,rv,p,hz⟩:=I.list hq
  have hl:=rv.length
  refine ⟨fun _ _=>False,fun j h=>j=i/\h.IsListIter b a i/\h.IsList a its.toArray,?_,rfl,st,p.isList⟩
  refine ⟨fun j h q=>?_,fun j h h' q k=>⟨q.1,q.2.1.at fun o e=>k b (by simp) o e,q.2.2.at fun o e=>k a (by simp) o e⟩,fun j s' Q E hj q=>absurd hj (by rw [q.1];exact Nat.lt_irrefl _),fun s' Q E q hE=>?_⟩
  ·obtain ⟨_,⟨o,e,_⟩,_⟩:=q
   exact ⟨o,e⟩
  ·exact wpAny_nextOf_list_end (I.ok.hd hc) q.2.1 q.2.2 (by simp;omega) hE
theorem ybl {P:Program}{w:World}{K:QFg}(b a:Addr) (nab:a≠b):Zs P w K (Itt K a) b a (fun i h=>h.IsTupleIter b a i) where
 obj:=fun i h st=>by
  obtain ⟨o,q,c,d⟩:=st
  exact ⟨o,q,fun v z=>by rw [d] at z;cases z⟩
 keep:=fun i h h1 st k=>by
  obtain ⟨o,q,r⟩:=st
  exact ⟨o,k o q,r⟩
 go:=by
  intro X hP hw hK hc i pins s σ H I st hg
  subst hP hw hK
  obtain ⟨xs,x,hq,hx⟩:=hg
  obtain ⟨its,rv,p,hz⟩:=I.tuple hq
  obtain ⟨u,hu,ru⟩:=rv.get hx
  have p:s.heap.IsTuple a its.toArray:=p
  have hlt:i<its.toArray.size:=by simpa using (qme hu).1
  refine ⟨_,_,_,zqn (A:=X.A.in1) (I.ok.hd hc) b a nab its.toArray,⟨st,p⟩,hlt,fun h' q=>q.1,fun v hv=>⟨x,?_,rfl,fun ys hy=>by rw [I.tuple_inj hy hq];exact hx⟩⟩
  have:its.toArray[i]? = some u:=by simpa using hu
  rw [this] at hv
  exact (qoi hv) ▸ ru
 stop:=by
  intro X hP hw hK hc i pins s σ H I st hg
  subst hP hw hK
  obtain ⟨xs,hq,hx⟩:=hg
  obtain ⟨its,rv,p,hz⟩:=I.tuple hq
  have p:s.heap.IsTuple a its.toArray:=p
  have hl:=rv.length
  refine ⟨fun _ _=>False,fun j h=>j=i/\h.IsTupleIter b a i/\h.IsTuple a its.toArray,?_,rfl,st,p⟩
  refine ⟨fun j h q=>?_,fun j h h' q k=>⟨q.1,?_,?_⟩,fun j s' Q E hj q=>absurd hj (by rw [q.1];exact Nat.lt_irrefl _),fun s' Q E q hE=>?_⟩
  ·obtain ⟨_,⟨o,e,_⟩,_⟩:=q
   exact ⟨o,e⟩
  ·obtain ⟨o,e,r⟩:=q.2.1
   exact ⟨o,k b (by simp) o e,r⟩
  ·obtain ⟨o,e,r⟩:=q.2.2
   exact ⟨o,k a (by simp) o e,r⟩
  ·exact zl8 (I.ok.hd hc) q.2.1 q.2.2 (by simp;omega) hE
noncomputable def Itz (J1 J2:It):It:=⟨fun i H=>J1.go i H/\J2.go i H,fun i H x H1=>∃y1 y2 p,J1.yld i H y1 H/\J2.yld i H y2 H/\H p=none/\x=.ref p/\H1=upd H p (.tup [y1,y2]),fun i H=>J1.stop i H∨(J1.go i H/\J2.stop i H)⟩
theorem ybm {P:Program}{w:World}{K:QFg}{elts:List Expr}{x0:Nat}{tp:Pos}{J1 J2:It}{z TI TO i1 i2 c1 c2:Addr}{t1 t2:Nat->Heap->Prop}(Z1:Zs P w K J1 i1 c1 t1) (Z2:Zs P w K J2 i2 c2 t2) (G:ZipApart z TI TO i1 i2 c1 c2) :
  Turn P w K (.Tuple elts x0 tp) (Itz J1 J2) [z,TI,TO,i1,i2] z (fun i h=>IsZip h z TI TO .none/\IsPair h TI (.ref i1) (.ref i2)/\(∃a b,IsPair h TO a b)/\t1 i h/\t2 i h) where
 mem:=by simp
 obj:=by
  rintro i h ⟨hz,hI,⟨a,b,hO⟩,q1,q2⟩ c hc
  simp only [List.mem_cons,List.not_mem_nil,or_false] at hc
  rcases hc with rfl|rfl|rfl|rfl|rfl
  ·exact ⟨_,hz,fun v e=>by have e:Data.fields _=Data.cell v:=e
                           cases e⟩
  ·exact ⟨_,hI,fun v e=>by have e:Data.seq _ _=Data.cell v:=e
                           cases e⟩
  ·exact ⟨_,hO,fun v e=>by have e:Data.seq _ _=Data.cell v:=e
                           cases e⟩
  ·exact Z1.obj i h q1
  ·exact Z2.obj i h q2
 keep:=by
  rintro i h h' ⟨hz,hI,⟨a,b,hO⟩,q1,q2⟩ k
  exact ⟨k z (by simp) _ hz,k TI (by simp) _ hI,⟨a,b,k TO (by simp) _ hO⟩,Z1.keep i h h' q1 (k i1 (by simp)),Z2.keep i h h' q2 (k i2 (by simp))⟩
 item:=by
  intro X hP hw hK hc i pins s σ H E I hf st hg
  obtain ⟨hz,hI,⟨a,b,hO⟩,q1,q2⟩:=st
  obtain ⟨n1,P1,T1,D1,u1,k1,v1,r1⟩:=Z1.go X hP hw hK hc i pins s σ H I q1 hg.1
  obtain ⟨n2,P2,T2,D2,u2,k2,v2,r2⟩:=Z2.go X hP hw hK hc i pins s σ H I q2 hg.2
  subst hP hw hK
  have hn:H s.heap.objs.size=none:=I.hok.fresh (qlr _)
  have lt:∀{c:Addr} {o:Obj},s.heap.get? c=some o->c≠s.heap.objs.size:=fun e=>Nat.ne_of_lt (Heap.lt_size e)
  have li1:i1≠s.heap.objs.size:=by
   obtain ⟨o,e,_⟩:=Z1.obj i _ q1
   exact lt e
  have li2:i2≠s.heap.objs.size:=by
   obtain ⟨o,e,_⟩:=Z2.obj i _ q2
   exact lt e
  refine ybj D1 D2 G hz hI hO u1 u2 k1 k2 fun x y h1 tk p1 p2 p3 p4 p5 p6 p7 p8=>⟨_,rfl,wpAny_letOwnedTupleGo_zip p3 fun h2 z2 s2=>?_⟩
  replace s2:Heap.SameBut z h1 h2:=s2
  obtain ⟨dx,rx,yx⟩:=r1 x p1
  obtain ⟨dy,ry,yy⟩:=r2 y p2
  refine ⟨.ref s.heap.objs.size,upd H s.heap.objs.size (.tup [dx,dy]),?_,rfl,⟨dx,dy,s.heap.objs.size,yx,yy,hn,rfl,rfl⟩,⟨z2,s2.extBut _ _ G.TIz (p8 _ _ G.TIz G.TITO G.TIi1 G.TIi2 hI),⟨_,_,s2.extBut _ _ G.TOz p4⟩,Z1.keep _ _ _ (v1 _ p5) (fun o e=>s2.extBut _ _ G.i1z e),Z2.keep _ _ _ (v2 _ p6) (fun o e=>s2.extBut _ _ G.i2z e)⟩,fun c hc=>?_⟩
  ·refine Inv.dealt (t1:=tk) (us:=[x,y]) (ch:=[z,TI,TO,i1,i2]) I hf (fun c o hc q=>?_) ⟨_,s2.extBut _ _ (lt hz).symm p7,rfl,_,rfl⟩ (.cons rx (.cons ry .nil)) (by show 2<=sizeLine;decide)
   simp only [List.mem_cons,List.not_mem_nil,or_false,not_or] at hc
   exact s2.extBut _ _ hc.1 (p8 c o hc.1 hc.2.2.1 hc.2.2.2.1 hc.2.2.2.2 q)
  ·have hne:c≠s.heap.objs.size:=by
    simp only [List.mem_cons,List.not_mem_nil,or_false] at hc
    rcases hc with rfl|rfl|rfl|rfl|rfl
    ·exact lt hz
    ·exact lt hI
    ·exact lt hO
    ·exact li1
    ·exact li2
   rw [zar hne];exact (hf c hc).1
 done:=by
  intro X hP hw hK hc i pins s σ H E I hf st hg
  obtain ⟨hz,hI,⟨a,b,hO⟩,q1,q2⟩:=st
  have fin:∀(h1:Heap) (tk:Nat),(∀c o,c≠z->c≠TO->c≠i1->c≠i2->s.heap.get? c=some o->h1.get? c=some o)->Inv X pins σ H { s with heap:=h1,toks:=tk }:=fun h1 tk k =>
   Inv.turnedL (ch:=[z,TI,TO,i1,i2]) I hf fun c o hc q=>by
    simp only [List.mem_cons,List.not_mem_nil,or_false,not_or] at hc
    exact k c o hc.1 hc.2.2.1 hc.2.2.2.1 hc.2.2.2.2 q
  rcases hg with g1|⟨g1,g2⟩
  ·obtain ⟨P1,T1,D1,u1⟩:=Z1.stop X hP hw hK hc i pins s σ H I q1 g1
   subst hP hw hK
   exact zqz D1 G hz hI hO u1 (.inl rfl) fun h1 tk k=>⟨rfl,fin h1 tk k⟩
  ·obtain ⟨n1,P1,T1,D1,u1,k1,_⟩:=Z1.go X hP hw hK hc i pins s σ H I q1 g1
   obtain ⟨P2,T2,D2,u2⟩:=Z2.stop X hP hw hK hc i pins s σ H I q2 g2
   subst hP hw hK
   exact zqz D1 G hz hI hO u1 (.inr ⟨k1,P2,T2,D2,u2⟩) fun h1 tk k=>⟨rfl,fin h1 tk k⟩
 self:=fun A i s Q E st h=>wpAny_pyIter_zip st.1 h
noncomputable abbrev itO (t:Bool) (a:Addr):Obj:={ cls:=.type (if t then "tuple_iterator" else "list_iterator"),data:=.fields #[.ref a,.int 0 0] }
noncomputable def SqB (t:Bool) (h:Heap) (a:Addr) (vs:Array Value):Prop:=if t then h.IsTuple a vs else h.IsList a vs
theorem SqB.push {t:Bool}{h:Heap}{a:Addr}{vs:Array Value}(q:SqB t h a vs) (o:Obj):SqB t (h.push o) a vs:=by
 cases t with
 | true =>
  obtain ⟨x,e,r⟩:=(q:h.IsTuple a vs)
  exact (⟨x,qps _ e,r⟩:(h.push o).IsTuple a vs)
 | false=>exact Heap.IsList.push (q:h.IsList a vs) o
theorem zq0 {prog:Program}{w:World}{A:Around}{E:Value->Shared->Prop}{s:Shared}{t:Bool}{a:Addr}{vs:Array Value}{Q:Value->Shared->Prop}(q:SqB t s.heap a vs) (h:Q (.ref s.heap.objs.size) { s with heap:=s.heap.push (itO t a) }):wpAny (model prog w) A (pyIter (.ref a)) Q E s:=by
 cases t with
 | true=>exact wpAny_pyIter_tuple (q:s.heap.IsTuple a vs) h
 | false=>exact wpAny_pyIter_list (q:s.heap.IsList a vs) h
noncomputable abbrev zp1 (t1:Bool) (h:Heap) (l1:Addr):Heap:=h.push (itO t1 l1)
noncomputable abbrev zp2 (t1 t2:Bool) (h:Heap) (l1 l2:Addr):Heap:=(zp1 t1 h l1).push (itO t2 l2)
noncomputable abbrev zp3 (t1 t2:Bool) (h:Heap) (l1 l2:Addr):Heap:=(zp2 t1 t2 h l1 l2).push { cls:=.type "tuple",data:=.seq #[.ref h.objs.size,.ref (zp1 t1 h l1).objs.size] }
noncomputable abbrev zp4 (t1 t2:Bool) (h:Heap) (l1 l2:Addr):Heap:=(zp3 t1 t2 h l1 l2).push { cls:=.type "tuple",data:=.seq #[.none,.none] }
noncomputable abbrev zp5 (t1 t2:Bool) (h:Heap) (l1 l2:Addr):Heap:=(zp4 t1 t2 h l1 l2).push { cls:=.type "zip",data:=.fields #[.none,.bool false,.bool false,.ref (zp2 t1 t2 h l1 l2).objs.size,.ref (zp3 t1 t2 h l1 l2).objs.size] }
theorem ybn (t1 t2:Bool) (l1 l2:Addr) (xs ys:Array Value) :
  Meets (Builtin.«zip.__new__» ⟨[.type "zip",.ref l1,.ref l2],[]⟩) (fun _ R s=>SqB t1 s.heap l1 xs/\SqB t2 s.heap l2 ys/\R (.ok (.ret (.ref (zp4 t1 t2 s.heap l1 l2).objs.size))) { s with heap:=zp5 t1 t2 s.heap l1 l2 }) :=
 .of_wp fun prog w A R s h=>by
  obtain ⟨hp,g,d,tk,os⟩:=s
  obtain ⟨q1,q2,h⟩:=h
  have hsub:=sub_zip
  have b1:SqB t1 (Shared.heap ⟨hp,g,d,tk,os⟩) l1 xs:=q1
  have b2:SqB t2 (Shared.heap ⟨hp.push (itO t1 l1),g,d,tk,os⟩) l2 ys:=SqB.push q2 _
  wp_walk using zq0 b1,zq0 b2
  exact ⟨_,rfl,h⟩
section
variable {prog:Program}{w:World}{A:Around}{E:Value->Shared->Prop}{s:Shared}
theorem ybo {t1 t2:Bool}{l1 l2:Addr}{xs ys:Array Value}{Q:Value->Shared->Prop}(q1:SqB t1 s.heap l1 xs) (q2:SqB t2 s.heap l2 ys)
  (h:∀h',IsZip h' (s.heap.objs.size+4) (s.heap.objs.size+2) (s.heap.objs.size+3) .none->IsPair h' (s.heap.objs.size+2) (.ref s.heap.objs.size) (.ref (s.heap.objs.size+1))->IsPair h' (s.heap.objs.size+3) .none .none ->
   h'.get? s.heap.objs.size=some (itO t1 l1)->h'.get? (s.heap.objs.size+1)=some (itO t2 l2)->(∀c o,s.heap.get? c=some o->h'.get? c=some o)->Q (.ref (s.heap.objs.size+4)) { s with heap:=h' }) :
  wpAny (model prog w) A (call (.type "zip") [.ref l1,.ref l2]) Q E s:=by
 refine callType_new F.called_zip (by decide) (F.typeCall_zip_2 _ _) (F.newCall_zip_2 _ _) (fun obj=>F.args_object_init_3 obj _ _) F.entry_zip_new (ybn t1 t2 l1 l2 xs ys) ⟨q1,q2,?_⟩
 have e1:(zp1 t1 s.heap l1).objs.size=s.heap.objs.size+1:=Heap.size_push ..
 have e2:(zp2 t1 t2 s.heap l1 l2).objs.size=s.heap.objs.size+2:=by rw [Heap.size_push,e1]
 have e3:(zp3 t1 t2 s.heap l1 l2).objs.size=s.heap.objs.size+3:=by rw [Heap.size_push,e2]
 have e4:(zp4 t1 t2 s.heap l1 l2).objs.size=s.heap.objs.size+4:=by rw [Heap.size_push,e3]
 have g5:(zp5 t1 t2 s.heap l1 l2).get? (zp4 t1 t2 s.heap l1 l2).objs.size=some _:=Heap.get?_push_size _ rfl
 have g4:(zp5 t1 t2 s.heap l1 l2).get? (zp3 t1 t2 s.heap l1 l2).objs.size=some _:=qps _ (Heap.get?_push_size _ rfl)
 have g3:(zp5 t1 t2 s.heap l1 l2).get? (zp2 t1 t2 s.heap l1 l2).objs.size=some _:=qps _ (qps _ (Heap.get?_push_size _ rfl))
 have g2:(zp5 t1 t2 s.heap l1 l2).get? (zp1 t1 s.heap l1).objs.size=some _:=qps _ (qps _ (qps _ (Heap.get?_push_size _ rfl)))
 have g1:(zp5 t1 t2 s.heap l1 l2).get? s.heap.objs.size=some _:=qps _ (qps _ (qps _ (qps _ (Heap.get?_push_size _ rfl))))
 show _/\_
 rw [e2,e3,e4] at g5
 rw [e1,e2] at g3
 rw [e3] at g4
 rw [e1] at g2
 rw [e4]
 exact ⟨⟨_,g5,rfl⟩,h _ g5 g3 g4 g1 g2 fun c o x=>qps _ (qps _ (qps _ (qps _ (qps _ x))))⟩
end
theorem ybp:bootBuiltins "zip" = some (.type "zip"):=by decide +kernel
noncomputable def ItB (K:QFg) (t:Bool) (a:Addr):It:=if t then Itt K a else Itl K a
noncomputable def SqK (K:QFg) (t:Bool) (H:Hp) (a:Addr):Prop:=if t then ∃xs,SqT K H a xs else ∃xs,SqL K H a xs
noncomputable def iZp (K:QFg) (ta:TA):TI:=fun σ H R=>ta σ H fun vs H1=>∃(t1 t2:Bool) (a b:Addr),vs=[.ref a,.ref b]/\SqK K t1 H1 a/\SqK K t2 H1 b/\R (Itz (ItB K t1 a) (ItB K t2 b)) H1
theorem SqK.at {X:Cx}{pins:List (Addr × Obj)}{σ:L2.St}{H:Hp}{s:Shared}{t:Bool}{a:Addr}(I:Inv X pins σ H s) (q:SqK X.K t H a):∃vs,SqB t s.heap a vs/\a<s.heap.objs.size:=by
 cases t with
 | true =>
  obtain ⟨xs,hq⟩:=(q:∃xs,SqT X.K H a xs)
  obtain ⟨its,rv,pl,hz⟩:=I.tuple hq
  have pl:s.heap.IsTuple a its.toArray:=pl
  obtain ⟨o,e,_⟩:=id pl
  exact ⟨_,pl,Heap.lt_size e⟩
 | false =>
  obtain ⟨xs,hq⟩:=(q:∃xs,SqL X.K H a xs)
  obtain ⟨its,rv,pl,hz⟩:=I.list hq
  obtain ⟨o,e,_⟩:=id pl.isList
  exact ⟨_,pl.isList,Heap.lt_size e⟩
theorem zq1 {P:Program}{w:World}{K:QFg}(t:Bool) (b a:Addr) (nab:a≠b):Zs P w K (ItB K t a) b a (fun i h=>if t then h.IsTupleIter b a i else h.IsListIter b a i):=by
 cases t with
 | true=>exact ybl b a nab
 | false=>exact ybk b a nab
theorem ybq {X:Cx}{elts:List Expr}{x0:Nat}{tp:Pos}{a a2:Expr}{ta:TA}{p pos:Pos}(hg:Gl X "zip") (hm:X.mg "zip" = none) (ha:PA X [a,a2] ta) (hs:starEach [a,a2] X.env=(false,eval a X.env) :: starEach [a2] X.env:=by rfl) (hs2:(backTo pos (starEach [a2] X.env)).any (·.1)=false:=by rfl) :
  PI X (.Tuple elts x0 tp) (.Call (.Name "zip" p) [a,a2] [] pos) (iZp X.K ta):=by
 intro pins s σ H R I h
 refine Call_ (zfv I hg hm ybp (PyProof.Rows.callWith_type1 (thn (ha pos pins s σ H _ I h) fun us s1 hx_=>?_) hs hs2))
 obtain ⟨vs,H1,I1,r1,q1⟩:=hx_
 obtain ⟨t1,t2,b,c,rfl,k1,k2,q⟩:=q1
 obtain ⟨u,v,rfl,ru,rv⟩:=Vals.two r1
 cases ru;cases rv
 obtain ⟨xs,b1,l1⟩:=k1.at I1
 obtain ⟨ys,b2,l2⟩:=k2.at I1
 refine ybo b1 b2 fun h' hz hI hO w1 w2 hk=>?_
 have m1:@LT.lt Nat _ b s1.heap.objs.size:=l1
 have m2:@LT.lt Nat _ c s1.heap.objs.size:=l2
 generalize hn:s1.heap.objs.size=n at *
 have G:ZipApart (n+4) (n+2) (n+3) n (n+1) b c:=by constructor <;> (show (_:Nat)≠_) <;> omega
 refine wpAny_pyIter_zip (s:={ s1 with heap:=h' }) hz ⟨_,_,_,_,H1,rfl,I1.kept (t':=s1.toks) hk,ybm (zq1 t1 n b (Nat.ne_of_lt m1)) (zq1 t2 (n+1) c (Nat.ne_of_lt (Nat.lt_succ_of_lt m2))) G,⟨hz,hI,⟨_,_,hO⟩,?_,?_⟩,fun c hc=>?_,q⟩
 ·cases t1 with
  | true=>exact ⟨_,w1,rfl,rfl⟩
  | false=>exact ⟨_,w1,rfl,rfl⟩
 ·cases t2 with
  | true=>exact ⟨_,w2,rfl,rfl⟩
  | false=>exact ⟨_,w2,rfl,rfl⟩
 ·have:s1.heap.objs.size<=c:=by
   simp only [List.mem_cons,List.not_mem_nil,or_false] at hc
   rcases hc with rfl|rfl|rfl|rfl|rfl <;> omega
  exact I1.fpOk this (I1.hok.fresh this)
noncomputable def itZ (i1 i2:ItM):ItM:=fun i S=>(i1 i S).bind fun o=>match o with
 | none=>some none
 | some x=>(i2 i S).bind fun p=>match p with
  | none=>some none
  | some y=>some (some (.tup [x,y]))
noncomputable def sqI (S:Sto):D->Option (ItM × Nat)
 | .tup xs=>some (itX xs,xs.length)
 | .ref n=>(lstOf S n).bind fun xs=>some (itL n,xs.length)
 | _=>none
noncomputable def zgu (m:AM):IM:=fun l S=>(m l S).bind fun p=>match p.1 with
 | [x,y]=>(sqI p.2 x).bind fun a=>(sqI p.2 y).bind fun b=>some (itZ a.1 b.1,min a.2 b.2+1,p.2)
 | _=>none
theorem ybr {K:QFg}{ρ:List Addr}{H:Hp}{i1 i2:ItM}{J1 J2:It}(h1:ze0 K ρ H i1 J1) (h2:ze0 K ρ H i2 J2):zj4 K ρ H (itZ i1 i2) (Itz J1 J2):=by
 intro i ρ1 S1 H1 e s
 obtain ⟨a1,a2⟩:=h1 i ρ1 S1 H1 e s
 obtain ⟨b1,b2⟩:=h2 i ρ1 S1 H1 e s
 unfold itZ
 refine ⟨fun q=>?_,fun x q=>?_⟩
 ·obtain ⟨o,ho,q⟩:=bnd q
  cases o with
  | none=>exact .inl (a1 ho)
  | some x =>
   obtain ⟨p,hp,q⟩:=bnd q
   cases p with
   | none=>exact .inr ⟨(a2 x ho).1,b1 hp⟩
   | some y=>cases q
 ·obtain ⟨o,ho,q⟩:=bnd q
  cases o with
  | none=>cases q
  | some x1 =>
   obtain ⟨p,hp,q⟩:=bnd q
   cases p with
   | none=>cases q
   | some y1 =>
    cases q
    obtain ⟨g1,r1⟩:=a2 x1 ho
    obtain ⟨g2,r2⟩:=b2 y1 hp
    refine ⟨⟨g1,g2⟩,fun v H2 hx_=>?_⟩
    obtain ⟨y,y',p,hy1,hy2,hp,e1,e2⟩:=hx_
    subst e1 e2
    obtain ⟨_,s1⟩:=r1 y H1 hy1
    obtain ⟨_,s2⟩:=r2 y' H1 hy2
    exact ⟨zca hp,s.laid hp,.tup zcg (.cons (s1.mono (zca hp)) (.cons (s2.mono (zca hp)) .nil))⟩
theorem zq2 {K:QFg}{ρ:List Addr}{S:Sto}{H:Hp}{x:D}{v:V}{a:ItM × Nat}(h:sqI S x=some a) (sim:Sim K ρ S H) (r:RD ρ H x v):∃t c,v=.ref c/\SqK K t H c/\ze0 K ρ H a.1 (ItB K t c):=by
 unfold sqI at h
 split at h
 ·cases h
  cases r with
  | @tup _ c us hc' rr=>exact ⟨true,c,rfl,⟨us,SqT.of hc'⟩,zlv hc' rr⟩
 ·obtain ⟨ys,hx,h⟩:=bnd h
  cases h
  obtain ⟨c,us,hc',sq,rv'⟩:=sim.lstOf hx
  cases r with
  | ref hn =>
   rw [hc'] at hn;cases hn
   exact ⟨false,c,rfl,⟨us,sq⟩,zlw hc'⟩
 ·cases h
theorem zq3 {X:Cx}{elts:List Expr}{x0:Nat}{tp:Pos}{a a2:Expr}{mA:AM}{p0 pos':Pos}(hgl:Gl X "zip") (hmg:X.mg "zip" = none) (ha:PA3 X [a,a2] mA) (hst:starEach [a,a2] X.env=(false,eval a X.env) :: starEach [a2] X.env:=by rfl) (hst2:(backTo pos' (starEach [a2] X.env)).any (·.1)=false:=by rfl):zj5 X (.Tuple elts x0 tp) (.Call (.Name "zip" p0) [a,a2] [] pos') (zgu mA) :=
 PI.imp (ybq hgl hmg ha hst hst2) fun σ H R hx_=>by
  obtain ⟨ρ,l,S,it,k,S',sim,ro,hm,p⟩:=hx_
  obtain ⟨⟨xs,S2⟩,q2,q1⟩:=bnd hm
  dsimp only at q1
  split at q1
  ·rename_i x y
   obtain ⟨u1,e1,q1⟩:=bnd q1
   obtain ⟨u2,e2,q1⟩:=bnd q1
   cases q1
   refine ⟨ρ,l,S,[x,y],_,sim,ro,q2,fun ρ1 H1 vs ex s1 r1=>?_⟩
   obtain ⟨v,u,rfl,rv,ru⟩:=r1.two
   obtain ⟨t1,c1,rfl,k1,o1⟩:=zq2 e1 s1 rv
   obtain ⟨t2,c2,rfl,k2,o2⟩:=zq2 e2 s1 ru
   exact ⟨t1,t2,c1,c2,rfl,k1,k2,p ρ1 H1 _ ex s1 (ybr o1 o2)⟩
  ·cases q1
end L3
namespace SP
open PySem PySem.W PyProof.Rows PySem.Calls
section
variable {prog:Program}{w:World}{A:Around}{E:Value->Shared->Prop}{s:Shared}
theorem ybs {x:Addr}{ps:List Pr}{R0:Value->Pr->Prop}{Q:Value->Shared->Prop}(hR:∀v p,R0 v p->IsP s.heap v p)
  (hc:∀(E:Value->Shared->Prop) (R:List Value->Shared->Prop),(∀h' tk vs,s.heap.objs.size<=h'.objs.size->(∀b o,s.heap.get? b=some o->h'.get? b=some o)->TR R0 vs ps->R vs { s with heap:=h',toks:=tk })->wpAny (model prog w) A.in1 (collect (.ref x)) R E s) (nd:ps.Nodup) (h64:ps.length<1000)
  (h:∀h' tk D e out,(∀b o,s.heap.get? b=some o->h'.get? b=some o)->s.heap.objs.size<=D->h'.get? D=some (seqObj "list" out.toArray e)->TR R0 out (sortP ps)->Q (.ref D) { s with heap:=h',toks:=tk }) :
  wpAny (model prog w) A (call (.builtin "sorted") [.ref x]) Q E s:=by
 have fits:∀k,k<1000->k<=sizeLine:=fun k hk=>by rw [sizeLine_eq];omega
 refine call_function_entry kind_sorted plain_sorted entry_sorted (args_sorted1 _) ?_
 unfold Builtin.«sorted»
 refine wpAny_bind (m:=checkCount "sorted" 1 1 _) (wpAny_pure (wpAny_bind (hc _ _ fun h' tk vs sz keep t=>?_)))
 have hl:=t.length
 refine wpAny_bind (wpAny_newList ?_ (fits _ (by omega)))
 have hD:(h'.push (seqObj "list" vs.toArray 0)).get? h'.objs.size=some (seqObj "list" vs.toArray 0):=Heap.get?_push_size _ rfl
 have t':Tp (h'.push (seqObj "list" vs.toArray 0)) vs ps:=t.imp fun v p x=>(hR v p x).kept fun b o _ e=>qps _ (keep b o e)
 refine wpAny_bind (wpAny_holding (wpAny_call_entry slot_list_sort ⟨_,hD,rfl⟩ entry_list_sort (zuq (s:={ s with heap:=h'.push (seqObj "list" vs.toArray 0),toks:=tk }) hD t' t nd h64 fun out to=>⟨_,rfl,?_⟩) (args_list_sort _)))
 refine wpAny_pure ⟨_,rfl,?_⟩
 obtain ⟨c,hc2⟩:=sortedHeap_at (out:=out.toArray) hD
 refine h _ tk h'.objs.size c out (fun b o e=>?_) sz hc2 to
 have lb:=Heap.lt_size (keep b o e)
 rw [sortedHeap_old (Nat.ne_of_lt lb) (by rw [size_push'];exact Nat.lt_succ_of_lt lb)]
 exact qps _ (keep b o e)
theorem sorted_pairsN_list {x:Addr}{vs:List Value}{ps:List Pr}{R0:Value->Pr->Prop}{Q:Value->Shared->Prop}(hR:∀v p,R0 v p->IsP s.heap v p) (hl:s.heap.IsList x vs.toArray) (t:TR R0 vs ps) (nd:ps.Nodup) (h64:ps.length<1000)
  (h:∀h' tk D e out,(∀b o,s.heap.get? b=some o->h'.get? b=some o)->s.heap.objs.size<=D->h'.get? D=some (seqObj "list" out.toArray e)->TR R0 out (sortP ps)->Q (.ref D) { s with heap:=h',toks:=tk }) :
  wpAny (model prog w) A (call (.builtin "sorted") [.ref x]) Q E s:=by
 refine ybs hR (fun E R hQ=>collect_list hl ?_ (by rw [t.length,sizeLine_eq];omega)) nd h64 h
 refine hQ _ s.toks vs (by rw [Heap.size_update,size_push'];exact Nat.le_succ _) (fun b o e=>?_) t
 have hb:=Nat.ne_of_lt (Heap.lt_size e)
 exact (Heap.get?_update_other _ _ (Ne.symm hb)).trans (qps _ e)
end
end SP
namespace L3
open PySem PySem.Spec PyProof.Rows L2
noncomputable def zq4 (K:QFg):List V->Hp->VK->Prop:=fun xs H Q=>∃(p:Addr) (vs:List V) (ps:List SP.Pr),xs=[.ref p]/\SqL K H p vs/\VP H vs ps/\ps.Nodup/\ps.length<1000/\∀l ws,H l=none->VP H ws (SP.sortP ps)->Q (.ref l) (upd H l (.lst ws))
section
variable {X:Cx}
theorem ybt:CallR X (.builtin "sorted") (zq4 X.K):=by
 intro pins s σ H xs us Q I r h
 obtain ⟨p,vs,ps,rfl,sq,vp,nd,h64,q⟩:=h
 obtain ⟨u,rfl,ru⟩:=zfw r
 cases ru
 obtain ⟨its,rv,pl,hz⟩:=I.list sq
 refine SP.sorted_pairsN_list (R0:=RH H) (fun v p x=>ybe I.hok x) pl.isList (ybf vp rv) nd h64 fun h' tk D e out keep sz hD t=>?_
 obtain ⟨ws,w1,w2⟩:=ybg t
 have hl:ws.length<=sizeLine:=by rw [w2.length,(SP.sortP_perm ps).length_eq,sizeLine_eq];omega
 exact ⟨.ref D,_,I.laid (t':=tk) keep sz (show ObjOk X.prog X.w _ _ _ (.lst ws) from ⟨hl,out,e,w1,hD⟩),rfl,q D ws (I.hok.fresh sz) w2⟩
end
noncomputable def zhp:FM
 | [.ref n],S=>(lstOf S n).bind fun xs=>(zho xs).bind fun ps=>if ps.Nodup/\ps.length<1000 then some (.ref S.length,S++[.lst ((SP.sortP ps).map pD)]) else none
 | _,_=>none
theorem ybu {K:QFg}:Fn3 K zhp (zq4 K):=by
 intro ρ S H xs vs v S' Q sim r h p
 unfold zhp at h
 split at h
 ·obtain ⟨ys,h1,h⟩:=bnd h
  obtain ⟨ps,h2,h⟩:=bnd h
  obtain ⟨hz,e⟩:=zbk h
  cases e
  obtain ⟨w,rfl,rw'⟩:=r.one
  obtain ⟨a,us,ha,sq,rv⟩:=sim.lstOf h1
  cases rw' with
  | ref hn =>
   rw [ha] at hn;cases hn
   rw [zqx h2] at rv
   exact ⟨a,us,ps,rfl,sq,zqy rv,hz.1,hz.2,fun l ws hl hw=>zii sim (ybd hw) p l hl⟩
 ·cases h
section
variable {X:Cx}{a:Expr}{es:List Expr}{mA:AM}{pos p:Pos}
theorem ybv (hg:Gl X "sorted") (hm:X.mg "sorted" = none) (ha:PA3 X (a :: es) mA) (he:starEach (a :: es) X.env=(false,eval a X.env) :: starEach es X.env:=by rfl) (hpl:(backTo pos (starEach es X.env)).any (·.1)=false:=by rfl):PE3 X (.Call (.Name "sorted" p) (a :: es) [] pos) (zaf zhp mA) :=
 zlf ybt ybu hg hm yar ha (by decide) (by decide) he hpl
end
end L3
namespace HT
open PySem PyProof.Rows
theorem zq5 (A:Around) (s:Shared) (a:Int) (t:Tok) (c:Int) (u:Tok) (prog:Program) (w:World) (E:Value->Shared->Prop) (Q:Value->Shared->Prop) (h:Q (.bool (decide (c<a))) s) :
  wpAny (model prog w) A (richCompare .Gt (.int a t) (.int c u)) Q E s :=
 (PyProof.Rows.gt_int h:wpAny (model prog w) A (compareOp .Gt (.int a t) (.int c u)) Q E s)
section
open PySem.SeqAt
open PySem.AutoSeq1 (wpAny_loadPart')
open PySem.MeetsSeq PySem.MeetsSeq2 PySem.MeetsSeq3
theorem ybw (l b:Addr) (items items2:Array Value) (n n2:Nat) (dd dd2:Option Addr) (sl sl2:Array (Option Value)) (ns ms:List Int) (hi:IntsAre items.toList ns) (hj:IntsAre items2.toList ms) :
  Meets (Builtin.«tuple.__gt__» ⟨[.ref l,.ref b],[]⟩)
   (fun _ R s=>s.heap.get? l=some { cls:=.type "tuple",dict:=dd,data:=.seq items n,slots:=sl }/\s.heap.get? b=some { cls:=.type "tuple",dict:=dd2,data:=.seq items2 n2,slots:=sl2 } /\
    R (.ok (.ret (.bool (lexLt ms ns)))) s) :=
 .of_wp fun prog w A R s h=>by
  obtain ⟨hp,g,d,tk,os⟩:=s;obtain ⟨hl,hb,h⟩:=h
  have f2:=AutoSeq1.sub_tuple_tuple
  have z1:items.size=ns.length:=by rw [←hi.length];simp
  have z2:items2.size=ms.length:=by rw [←hj.length];simp
  wp_walk using wpAny_loadPart' hl,wpAny_loadPart' hb,wpAny_forIn_list _ (fun rest b s'=>b.1=none/\s' = ⟨hp,g,d,tk,os⟩/\∃(vs ws:List Value) (ns' ms':List Int),rest=vs.zip ws /\
   IntsAre vs ns'/\IntsAre ws ms'/\ns'.length+items2.size=ms'.length+items.size/\R (.ok (.ret (.bool (lexLt ms' ns')))) ⟨hp,g,d,tk,os⟩) _
  case turn =>
   rintro ⟨y,x⟩ rest b s' ⟨hb',rfl,vs,ws,ns',ms',hz,hvi,hwi,hlen,hR⟩
   cases hvi with
   | nil=>rw [List.zip_nil_left] at hz;cases hz
   | cons a t hvi' =>
    cases hwi with
    | nil=>rw [List.zip_nil_right] at hz;cases hz
    | cons c u hwi' =>
     rw [List.zip_cons_cons] at hz
     injection hz with hyx hrest
     injection hyx with hy hx
     subst hy hx
     rw [lexLt_cons] at hR
     simp only [List.length_cons] at hlen
     obtain ⟨e,he,hiff⟩:=zow A.in1 ⟨hp,g,d,tk,os⟩ a t c u
     refine wpAny_bind (he prog w _ _ ?_)
     cases e with
     | true =>
      rw [if_pos (hiff.mp rfl).symm] at hR
      wp_walk
      exact ⟨rfl,rfl,_,_,_,_,hrest,hvi',hwi',by omega,hR⟩
     | false =>
      rw [if_neg (fun q=>absurd (hiff.mpr q.symm) Bool.false_ne_true)] at hR
      have hri:=zq5 A.in1 ⟨hp,g,d,tk,os⟩ a t c u prog w
      wp_walk using hri
      exact ⟨_,rfl,by simpa using hR⟩
  case fin =>
   rintro ⟨b1,b2⟩ s' ⟨hb',rfl,vs,ws,ns',ms',hz,hvi,hwi,hlen,hR⟩
   simp only at hb'
   subst hb'
   have hv:lexLt ms' ns' = decide (items2.size<items.size):=by
    cases hvi with
    | nil =>
     cases hwi with
     | nil =>
      simp only [List.length_nil] at hlen
      rw [zxe]
      exact (decide_eq_false (by omega)).symm
     | cons c u hw =>
      simp only [List.length_nil,List.length_cons] at hlen
      rw [zxg]
      exact (decide_eq_false (by omega)).symm
    | cons a t hv =>
     cases hwi with
     | nil =>
      simp only [List.length_nil,List.length_cons] at hlen
      rw [zxf]
      exact (decide_eq_true (by omega)).symm
     | cons c u hw =>
      rw [List.zip_cons_cons] at hz
      cases hz
   rw [hv] at hR
   wp_walk
   exact ⟨_,rfl,by simpa [Builtin.Tuple.tupleCompareSizes] using hR⟩
  case h =>
   exact ⟨rfl,rfl,items.toList,items2.toList,ns,ms,rfl,hi,hj,by omega,h⟩
end
section
variable {prog:Program}{w:World}{A:Around}{E:Value->Shared->Prop}{s:Shared}
theorem ybx {l b:Addr}{items items2:Array Value}{ns ms:List Int}{Q:Value->Shared->Prop}(hl:IsTup s.heap l items) (hb:IsTup s.heap b items2) (hi:IntsAre items.toList ns) (hj:IntsAre items2.toList ms)
  (hu:A.units<cLine) (h:Q (.bool (lexLt ms ns)) s):wpAny (model prog w) A (compareOp .Gt (.ref l) (.ref b)) Q E s:=by
 obtain ⟨⟨cls,dd,data,sl⟩,ho,hc,n,hd⟩:=id hl
 obtain ⟨⟨cls2,dd2,data2,sl2⟩,ho2,hc2,n2,hd2⟩:=id hb
 simp only at hc hd hc2 hd2
 subst hc hd hc2 hd2
 exact richCompare_meets_room (op:=.Gt) ⟨_,ho,rfl⟩ ⟨_,ho2,rfl⟩ PySem.F.slot_tuple_gt PySem.F.entry_tuple_gt (PySem.F.args_tuple_gt_2 _ _) (ybw l b items items2 n n2 dd dd2 sl sl2 ns ms hi hj)
  ⟨ho,ho2,show Value.bool (lexLt ms ns)≠Value.notImplemented/\Q (.bool (lexLt ms ns)) s from ⟨(fun x=>nomatch x),h⟩⟩ hu
theorem zq6:∀ns:List Int,lexLt ns ns=false
 | []=>rfl
 | x :: ns=>by rw [lexLt_cons,if_pos rfl];exact zq6 ns
theorem zmi {h:Heap}:∀{vs:List Value}{ns:List Int},IntsAre vs ns->∃as,ReadsAll h vs (ns.map PyData.int) as
 | _,_,.nil=>⟨_,.nil⟩
 | _,_,.cons a t r=>by
  obtain ⟨as,q⟩:=zmi (h:=h) r
  exact ⟨_,.cons (.int a t) q⟩
theorem zmj:∀ns:List Int,PyData.canLayAll0 (ns.map PyData.int)=true
 | []=>by simp [PyData.canLayAll0]
 | x :: ns=>by rw [List.map_cons];simp only [PyData.canLayAll0,PyData.canLay0,Bool.true_and];exact zmj ns
theorem zq7:∀ns ms:List Int,PyData.eqvAll (ns.map PyData.int) (ms.map PyData.int)=decide (ns=ms)
 | [],[]=>by simp [PyData.eqvAll]
 | [],_ :: _=>by simp [PyData.eqvAll]
 | _ :: _,[]=>by simp [PyData.eqvAll]
 | x :: ns,y :: ms=>by
  rw [List.map_cons,List.map_cons]
  simp only [PyData.eqvAll,PyData.eqv]
  rw [zq7 ns ms]
  by_cases e:x=y
  ·subst e
   by_cases e2:ns=ms <;> simp [e2]
  ·simp [e]
theorem zq8:∀ns:List Int,PyData.depthAll (ns.map PyData.int)<=1
 | []=>by simp [PyData.depthAll]
 | x :: ns=>by
  rw [List.map_cons]
  simp only [PyData.depthAll,PyData.depth]
  have:=zq8 ns
  omega
theorem yby {A:Around}{t u:Addr}{items items2:Array Value}{ns ms:List Int}(ht:IsTup s.heap t items) (hu:IsTup s.heap u items2) (hi:IntsAre items.toList ns) (hj:IntsAre items2.toList ms) (hA:A.units+3<cLine):SeqAt.EqAt A s (.ref t) (.ref u) (decide (ns=ms)):=by
 obtain ⟨o,h1,h2,n,h3⟩:=ht
 obtain ⟨o2,k1,k2,n2,k3⟩:=hu
 obtain ⟨as,ra⟩:=zmi (h:=s.heap) hi
 obtain ⟨bs,rb⟩:=zmi (h:=s.heap) hj
 have:=SeqAt.eqAt_reads (.tuple (ns.map PyData.int)) (.tuple (ms.map PyData.int)) A s (.ref t) (.ref u) _ _ (.tuple h1 h2 h3 ra) (.tuple k1 k2 k3 rb) (by rw [PyData.canLay0];exact zmj ns) (by rw [PyData.canLay0];exact zmj ms) (by
  have:=zq8 ns
  simp only [PyData.depth]
  omega)
 rw [PyData.eqv,zq7] at this
 exact this
end
section
open PySem.SeqAt
open PySem.AutoSeq1 (wpAny_loadPart')
open PySem.MeetsSeq PySem.MeetsSeq2 PySem.MeetsSeq3
theorem ybz (l b t u:Addr) (i j:Int) (t1 u1:Tok) (items items2:Array Value) (n n2:Nat) (dd dd2:Option Addr) (sl sl2:Array (Option Value)) (ns ms:List Int) (hi:IntsAre items.toList ns) (hj:IntsAre items2.toList ms) :
  Meets (Builtin.«tuple.__gt__» ⟨[.ref l,.ref b],[]⟩)
   (fun A R s=>s.heap.get? l=some { cls:=.type "tuple",dict:=dd,data:=.seq #[.int i t1,.ref t] n,slots:=sl }/\s.heap.get? b=some { cls:=.type "tuple",dict:=dd2,data:=.seq #[.int j u1,.ref u] n2,slots:=sl2 } /\
    IsTup s.heap t items/\IsTup s.heap u items2/\A.units+5<cLine/\R (.ok (.ret (.bool (if i=j then lexLt ms ns else decide (j<i))))) s) :=
 .of_wp fun prog w A R s h=>by
  obtain ⟨hp,g,d,tk,os⟩:=s;obtain ⟨hl,hb,htu,huu,hA,h⟩:=h
  have f2:=AutoSeq1.sub_tuple_tuple
  wp_walk using wpAny_loadPart' hl,wpAny_loadPart' hb,wpAny_forIn_list _ (fun rest b s'=>b.1=none/\s' = ⟨hp,g,d,tk,os⟩ /\
   (rest=[(.int i t1,.int j u1),(.ref t,.ref u)]∨(rest=[(.ref t,.ref u)]/\i=j)∨(rest=[]/\i=j/\ns=ms))) _
  case turn =>
   rintro ⟨y,x⟩ rest b s' ⟨hb',rfl,hI⟩
   rcases hI with hz|⟨hz,hij⟩|⟨hz,_⟩
   ·injection hz with hyx hrest
    injection hyx with hy hx
    subst hy hx
    obtain ⟨e,he,hiff⟩:=zow A.in1 ⟨hp,g,d,tk,os⟩ i t1 j u1
    refine wpAny_bind (he prog w _ _ ?_)
    cases e with
    | true =>
     wp_walk
     exact ⟨rfl,rfl,.inr (.inl ⟨hrest,hiff.mp rfl⟩)⟩
    | false =>
     rw [if_neg (fun q=>absurd (hiff.mpr q) Bool.false_ne_true)] at h
     have hri:=zq5 A.in1 ⟨hp,g,d,tk,os⟩ i t1 j u1 prog w
     wp_walk using hri
     exact ⟨_,rfl,by simpa using h⟩
   ·injection hz with hyx hrest
    injection hyx with hy hx
    subst hy hx
    rw [if_pos hij] at h
    have he:=yby (s:=⟨hp,g,d,tk,os⟩) (A:=A.in1) htu huu hi hj (by show A.units+1+3<_;omega)
    refine wpAny_bind (he prog w _ _ ?_)
    by_cases e:ns=ms
    ·rw [decide_eq_true e]
     wp_walk
     exact ⟨rfl,rfl,.inr (.inr ⟨hrest,hij,e⟩)⟩
    ·rw [decide_eq_false e]
     have hri:∀(E:Value->Shared->Prop) (Q:Value->Shared->Prop),Q (.bool (lexLt ms ns)) ⟨hp,g,d,tk,os⟩->wpAny (model prog w) A.in1 (richCompare .Gt (.ref t) (.ref u)) Q E ⟨hp,g,d,tk,os⟩:=fun E Q hq=>ybx (s:=⟨hp,g,d,tk,os⟩) htu huu hi hj (by show A.units+1<_;omega) hq
     wp_walk using hri
     exact ⟨_,rfl,by simpa using h⟩
   ·cases hz
  case fin =>
   rintro ⟨b1,b2⟩ s' ⟨hb',rfl,hI⟩
   simp only at hb'
   subst hb'
   rcases hI with hz|⟨hz,_⟩|⟨_,hij,e⟩
   ·cases hz
   ·cases hz
   rw [if_pos hij,e,zq6] at h
   wp_walk
   exact ⟨_,rfl,by simpa [Builtin.Tuple.tupleCompareSizes] using h⟩
  case h =>
   exact ⟨rfl,rfl,.inl rfl⟩
end
section
variable {prog:Program}{w:World}{A:Around}{E:Value->Shared->Prop}{s:Shared}
theorem gt_pair {l b t u:Addr}{i j:Int}{t1 u1:Tok}{items items2:Array Value}{ns ms:List Int}{Q:Value->Shared->Prop}(hl:IsTup s.heap l #[.int i t1,.ref t]) (hb:IsTup s.heap b #[.int j u1,.ref u]) (ht:IsTup s.heap t items) (hu:IsTup s.heap u items2) (hi:IntsAre items.toList ns) (hj:IntsAre items2.toList ms)
  (hA:A.units+8<cLine) (h:Q (.bool (if i=j then lexLt ms ns else decide (j<i))) s):wpAny (model prog w) A (compareOp .Gt (.ref l) (.ref b)) Q E s:=by
 obtain ⟨⟨cls,dd,data,sl⟩,ho,hc,n,hd⟩:=id hl
 obtain ⟨⟨cls2,dd2,data2,sl2⟩,ho2,hc2,n2,hd2⟩:=id hb
 simp only at hc hd hc2 hd2
 subst hc hd hc2 hd2
 refine richCompare_meets_room (op:=.Gt) ⟨_,ho,rfl⟩ ⟨_,ho2,rfl⟩ PySem.F.slot_tuple_gt PySem.F.entry_tuple_gt (PySem.F.args_tuple_gt_2 _ _) (ybz l b t u i j t1 u1 items items2 n n2 dd dd2 sl sl2 ns ms hi hj)
  ⟨ho,ho2,ht,hu,?_,show Value.bool (if i=j then lexLt ms ns else decide (j<i))≠Value.notImplemented/\Q (.bool (if i=j then lexLt ms ns else decide (j<i))) s from ⟨(fun x=>nomatch x),h⟩⟩ (by omega)
 first|omega|(show A.units+1+5<cLine;omega)|(show A.units+2+5<cLine;omega)
end
end HT
namespace L3
open PySem PySem.Spec PyProof.Rows L2
noncomputable def gtP (i j:Int) (ns ms:List Int):Bool:=if i=j then HT.lexLt ms ns else decide (j<i)
noncomputable def zq9 (K:QFg):R2:=fun x y H Q=>∃a b t u i j ns ms,x=.ref a/\y=.ref b/\SqT K H a [.int i,.ref t]/\SqT K H b [.int j,.ref u]/\SqT K H t (ns.map V.int)/\SqT K H u (ms.map V.int)/\Q (.bl (gtP i j ns ms)) H
section
variable {X:Cx}{k:Nat}
theorem yb0 (hr:Room k X.A):OpR X (compareOp .Gt) (zq9 X.K):=by
 intro pins s σ H x y v u Q I rx ry h
 obtain ⟨a,b,t,w,i,j,ns,ms,rfl,rfl,ha,hb,ht,hw,q⟩:=h
 cases rx
 cases ry
 obtain ⟨its,r1,p1,_⟩:=I.tuple ha
 obtain ⟨its2,r2,p2,_⟩:=I.tuple hb
 obtain ⟨its3,r3,p3,_⟩:=I.tuple ht
 obtain ⟨its4,r4,p4,_⟩:=I.tuple hw
 obtain ⟨u1,rfl⟩:∃u1,its=[.int i u1,.ref t]:=by
  cases r1 with
  | cons q1 q2 =>
   cases q2 with
   | cons q3 q4 =>
    cases q4
    obtain ⟨u1,rfl⟩:=q1
    cases q3
    exact ⟨u1,rfl⟩
 obtain ⟨u2,rfl⟩:∃u2,its2=[.int j u2,.ref w]:=by
  cases r2 with
  | cons q1 q2 =>
   cases q2 with
   | cons q3 q4 =>
    cases q4
    obtain ⟨u1,rfl⟩:=q1
    cases q3
    exact ⟨u1,rfl⟩
 exact HT.gt_pair p1 p2 p3 p4 (zo0 r3) (zo0 r4) (by have:=hr.un;omega) ⟨.bl (gtP i j ns ms),H,I,rfl,q⟩
noncomputable def zgv:D->D->Sto->Option (D × Sto)
 | .tup [.int i,.tup xs],.tup [.int j,.tup ys],S=>(zcc xs).bind fun ns=>(zcc ys).bind fun ms=>some (.bl (gtP i j ns ms),S)
 | _,_,_=>none
theorem yb1 {K:QFg}:Op3 K zgv (zq9 K):=by
 intro ρ S H x y x' y' v S' Q sim rx ry h p
 unfold zgv at h
 split at h
 ·obtain ⟨ns,h1,h⟩:=bnd h
  obtain ⟨ms,h2,h⟩:=bnd h
  cases h
  cases rx with
  | tup ha r1 =>
   cases ry with
   | tup hb r2 =>
    cases r1 with
    | cons a1 r1 =>
     cases r1 with
     | cons a2 r1 =>
      cases r1
      cases a1
      cases a2 with
      | tup hc r3 =>
       cases r2 with
       | cons b1 r2 =>
        cases r2 with
        | cons b2 r2 =>
         cases r2
         cases b1
         cases b2 with
         | tup hd r4 =>
          have e1:=zhl h1 r3
          have e2:=zhl h2 r4
          subst e1 e2
          exact ⟨_,_,_,_,_,_,ns,ms,rfl,rfl,SqT.of ha,SqT.of hb,SqT.of hc,SqT.of hd,p ρ H _ (Ext.refl ..) sim (.bl _)⟩
 ·cases h
end
section
variable {X:Cx}{k:Nat}{a b:Expr}{ma mb:EM}{pos:Pos}
theorem yb2 (hr:Room k X.A) (ha:PE3 X a ma) (hb:PE3 X b mb):PE3 X (.Compare a [.Gt] [b] pos) (eOp zgv ma mb):=zgj (yb0 hr) yb1 ha hb (zco b)
end
theorem zcd {α:Type}{x:α}{p:α->Prop}:(∃d,(some (some x):Option (Option α))=some (some d)/\p d)=p x:=by
 apply propext;constructor
 ·rintro ⟨d,h,q⟩;cases h;exact q
 ·exact fun q=>⟨x,rfl,q⟩
theorem zdc {α:Type}{x:α}{p:α->Prop}:(∃d,(some x:Option α)=some d/\p d)=p x:=by
 apply propext;constructor
 ·rintro ⟨d,h,q⟩;cases h;exact q
 ·exact fun q=>⟨x,rfl,q⟩
theorem zfg {b:Bool}{p:Bool->Prop}:(∃k,D.bl b=D.bl k/\p k)=p b:=by
 apply propext;constructor
 ·rintro ⟨d,h,q⟩;cases h;exact q
 ·exact fun q=>⟨b,rfl,q⟩
theorem zfh {α:Type}{x y:α}:L2.atI [x,y] 0=some x:=rfl
theorem zfi {α:Type}{x y:α}:L2.atI [x,y] 1=some y:=rfl
theorem zfj {α:Type}{x y z:α}:L2.atI [x,y,z] 0=some x:=rfl
theorem zfk {α:Type}{x y z:α}:L2.atI [x,y,z] 1=some y:=rfl
theorem zfl {α:Type}{x y z:α}:L2.atI [x,y,z] 2=some z:=rfl
theorem zdd {S:Sto}{xs:List D}:lstOf (S++[.lst xs]) S.length=some xs:=by unfold lstOf;rw [zfx]
theorem zra {α:Type}(l:List α) (x y:α):(l++[x]).set l.length y=l++[y]:=by
 induction l with
 | nil=>rfl
 | cons z r ih=>show z :: (r++[x]).set r.length y=_;rw [ih];rfl
theorem yb3 {α:Type}(xs:List α) (i:Int) (h0:0<=i) (h1:i<xs.length):∃x,L2.atI xs i=some x/\x∈xs:=by
 have hl:i.toNat<xs.length:=by omega
 refine ⟨xs[i.toNat],?_,qem hl⟩
 unfold L2.atI L2.ixN
 rw [if_pos h0,if_pos h1]
 simp [hl]
theorem atI_get {α:Type}{xs:List α}{i:Nat}{x:α}(h:xs[i]? = some x):L2.atI xs (i:Int)=some x:=by
 have hl:=(qme h).1
 unfold L2.atI L2.ixN
 rw [if_pos (by omega),if_pos (by omega)]
 simpa using h
section
variable {S:Sto}{Q:D->Sto->Prop}{l:Lo}{QG:Lo->Sto->Prop}
theorem zfm {i j:Int}:Wo (zc1 (.int i) (.int j) S) Q=(((-(2 ^ 64)<i/\i<2 ^ 64)∨(-(2 ^ 64)<j/\j<2 ^ 64))/\Q (.int (i*j)) S):=zgp
theorem zem {xs:List D}{i:Int}:Wo (zaj (.tup xs) (.int i) S) Q = ∃v,L2.atI xs i=some v/\Q v S:=by
 have e:zaj (.tup xs) (.int i) S=dIx (.tup xs) (.int i) S:=by
  unfold zaj
  cases h:dIx (.tup xs) (.int i) S with
  | some v=>rfl
  | none=>rfl
 rw [e,zeh]
theorem zen {k:Nat}{i:Int}:Wo (zaj (.ref k) (.int i) S) Q = ∃xs,lstOf S k=some xs/\∃v,L2.atI xs i=some v/\Q v S:=by
 have e:zaj (.ref k) (.int i) S=dIx (.ref k) (.int i) S:=by
  unfold zaj
  cases h:dIx (.ref k) (.int i) S with
  | some v=>rfl
  | none=>rfl
 rw [e,zei]
theorem zfn {k:Nat}:Wo (zbx [.ref k] S) Q = ∃xs,lstOf S k=some xs/\Q (.int xs.length) S:=zek
theorem zeo {xs:List D}:Wo (zbx [.tup xs] S) Q=Q (.int xs.length) S:=zej
theorem zfo {i j:Str}:Wo (dEq (.str i) (.str j) S) Q=Q (.bl (decide (i=j))) S:=zbe
theorem zfp {i j:Int}:Wo (dNe (.int i) (.int j) S) Q=Q (.bl (!decide (i=j))) S:=zbe
end
noncomputable def Gr (S0 S:Sto):Prop:=∃ex,S=S0++ex
theorem Gr.refl (S:Sto):Gr S S:=⟨[],by rw [List.append_nil]⟩
theorem Gr.trans {A B C:Sto}(h:Gr A B) (g:Gr B C):Gr A C:=by obtain ⟨x,rfl⟩:=h;obtain ⟨y,rfl⟩:=g;exact ⟨x++y,by rw [qaa]⟩
theorem Gr.push {A B:Sto}(h:Gr A B) (o:Ob):Gr A (B++[o]):=h.trans ⟨[o],rfl⟩
theorem Gr.get {A B:Sto}{n:Nat}{o:Ob}(h:Gr A B) (e:A[n]? = some o):B[n]? = some o:=by
 obtain ⟨x,rfl⟩:=h
 rw [List.getElem?_append_left (qme e).1];exact e
theorem Gr.lst {A B:Sto}{n:Nat}{xs:List D}(h:Gr A B) (e:lstOf A n=some xs):lstOf B n=some xs:=by
 unfold lstOf at e ⊢
 cases q:A[n]? with
 | none=>rw [q] at e;cases e
 | some o=>rw [h.get q];rw [q] at e;exact e
section
variable {it:ItM}{im:IM}{ixs:List (Option Nat)}{g:GM}{t:TM}{e:EM}{l:Lo}{S S1:Sto}{Q:D->Sto->Prop}{k:Nat}
theorem zmk (xs:List D) (R:Nat->List D->Lo->Sto->Prop) (hit:∀i acc l S,R i acc l S->it i S=some xs[i]?)
  (step:∀(i:Nat) x acc l S,xs[i]? = some x->R i acc l S->Wg (g x l S) fun l1 S1=>Wt t l1 S1 fun b S2=>if b=true then We e l1 S2 fun v S3=>R (i+1) (acc++[v]) l1 S3 else R (i+1) acc l1 S2) :
  ∀(n i:Nat) (acc:List D) (l:Lo) (S:Sto),n+i=xs.length->R i acc l S->∃rest S' l',zc0 it g t e (n+1) i l S=some (rest,S')/\R xs.length (acc++rest) l' S'
 | 0,i,acc,l,S,hn,h=>by
  have hi:i=xs.length:=by omega
  have e0:=hit i acc l S h
  rw [List.getElem?_eq_none_iff.mpr (by omega)] at e0
  refine ⟨[],S,l,?_,by rw [List.append_nil,←hi];exact h⟩
  unfold zc0;rw [e0];rfl
 | n+1,i,acc,l,S,hn,h=>by
  have hi:i<xs.length:=by omega
  have e0:=hit i acc l S h
  rw [qge hi] at e0
  obtain ⟨l1,S1,e1,b,S2,e2,q⟩:=step i _ acc l S (qge hi) h
  cases b with
  | true =>
   obtain ⟨v,S3,e3,q⟩:=q
   obtain ⟨rest,S',l',e4,q⟩:=zmk xs R hit step n (i+1) (acc++[v]) l1 S3 (by omega) q
   refine ⟨v :: rest,S',l',?_,by rw [qaa] at q;exact q⟩
   unfold zc0;rw [e0];show (g _ l S).bind _=_;rw [e1];show (t l1 S1).bind _=_;rw [e2]
   show (e l1 S2).bind _=_;rw [e3];show (zc0 it g t e (n+1) (i+1) l1 S3).bind _=_;rw [e4];rfl
  | false =>
   obtain ⟨rest,S',l',e4,q⟩:=zmk xs R hit step n (i+1) acc l1 S2 (by omega) q
   refine ⟨rest,S',l',?_,q⟩
   unfold zc0;rw [e0];show (g _ l S).bind _=_;rw [e1];show (t l1 S1).bind _=_;rw [e2]
   exact e4
theorem zml (xs:List D) (R:Nat->List D->Lo->Sto->Prop) (him:im l S=some (it,xs.length+1,S1)) (h0:R 0 [] (zbz ixs l) S1) (hit:∀i acc l S,R i acc l S->it i S=some xs[i]?)
  (step:∀(i:Nat) x acc l S,xs[i]? = some x->R i acc l S->Wg (g x l S) fun l1 S1=>Wt t l1 S1 fun b S2=>if b=true then We e l1 S2 fun v S3=>R (i+1) (acc++[v]) l1 S3 else R (i+1) acc l1 S2)
  (fin:∀acc l' S',R xs.length acc l' S'->acc.length<=sizeLine/\Q (.ref S'.length) (S'++[.lst acc])):We (zct im ixs g t e) l S Q:=by
 obtain ⟨rest,S',l',h1,h2⟩:=zmk (it:=it) (g:=g) (t:=t) (e:=e) xs R hit step xs.length 0 [] (zbz ixs l) S1 rfl h0
 obtain ⟨hz,q⟩:=fin rest l' S' h2
 refine ⟨_,_,?_,q⟩
 unfold zct;rw [him];show (zc0 it g t e (xs.length+1) 0 (zbz ixs l) S1).bind _=_;rw [h1];show (if _ then _ else _)=_;rw [if_pos hz]
theorem zj9 (xs:List D) (F:D->D) (P:Sto->Prop) (L:Lo->Prop) (him:im l S=some (it,xs.length+1,S1)) (h0:P S1) (l0:L (zbz ixs l)) (hit:∀i S,P S->it i S=some xs[i]?) (hz:xs.length<=sizeLine)
  (step:∀x l S,x∈xs->L l->P S->Wg (g x l S) fun l1 S2=>P S2/\L l1/\We e l1 S2 fun v S3=>v=F x/\P S3)
  (fin:∀S',P S'->Q (.ref S'.length) (S'++[.lst (xs.map F)])):We (zct im ixs g zed e) l S Q:=by
 refine zml xs (fun i acc l S=>acc=(xs.take i).map F/\L l/\P S) him ⟨rfl,l0,h0⟩ (fun i acc l S h=>hit i S h.2.2) ?_ ?_
 ·rintro i x acc l S hx ⟨rfl,hl,hp⟩
  obtain ⟨l1,S2,e1,p1,q1,v,S3,e2,rfl,p3⟩:=step x l S (qmg hx) hl hp
  refine ⟨l1,S2,e1,?_⟩
  dsimp only
  rw [zqe,if_pos rfl]
  refine ⟨_,S3,e2,?_,q1,p3⟩
  rw [List.take_add_one,hx];simp
 ·rintro acc l' S' ⟨rfl,hl,hp⟩
  rw [List.take_length]
  exact ⟨by rw [qlm];exact hz,fin S' hp⟩
theorem yb4 (xs:List D) (V:D->Prop) (P:Nat->Sto->Prop) (L:Lo->Prop) (him:im l S=some (it,xs.length+1,S1)) (h0:P 0 S1) (l0:L (zbz ixs l)) (hit:∀i S,P i S->it i S=some xs[i]?) (hz:xs.length<=sizeLine)
  (step:∀(i:Nat) x l S,xs[i]? = some x->L l->P i S->Wg (g x l S) fun l1 S2=>L l1/\We e l1 S2 fun v S3=>V v/\P (i+1) S3)
  (fin:∀vs S',vs.length=xs.length->(∀v∈vs,V v)->P xs.length S'->Q (.ref S'.length) (S'++[.lst vs])):We (zct im ixs g zed e) l S Q:=by
 refine zml xs (fun i acc l S=>acc.length=i/\(∀v∈acc,V v)/\L l/\P i S) him ⟨rfl,(fun v hv=>by cases hv),l0,h0⟩ (fun i acc l S h=>hit i S h.2.2.2) ?_ ?_
 ·rintro i x acc l S hx ⟨hl,hv,hL,hp⟩
  obtain ⟨l1,S2,e1,q1,v,S3,e2,hv2,p3⟩:=step i x l S hx hL hp
  refine ⟨l1,S2,e1,?_⟩
  dsimp only
  rw [zqe,if_pos rfl]
  refine ⟨v,S3,e2,by simp [hl],fun u hu=>?_,q1,p3⟩
  rcases List.mem_append.mp hu with hu|hu
  ·exact hv u hu
  ·rw [List.mem_singleton.mp hu];exact hv2
 ·rintro acc l' S' ⟨hl,hv,hL,hp⟩
  exact ⟨by rw [hl];exact hz,fin acc S' hl hv hp⟩
end
theorem yb5 {as:AM}{l:Lo}{S S1:Sto}{j:Int}(h:as l S=some ([.int j],S1)) (hz:-(2 ^ 62)<=j/\j<2 ^ 62):zb3 as l S=some ((0,j.toNat),S1):=by
 unfold zb3;rw [h];simp only [Option.bind_some];rw [if_pos hz]
theorem zrb {as:AM}{l:Lo}{S S1:Sto}{n:Nat}(h:as l S=some ([.int (n:Int)],S1)) (hn:n<1000000000):zio (zb3 as) l S=some (itX (zbm 0 n),(zbm 0 n).length+1,S1):=by
 have:=yb5 h ⟨by omega,by omega⟩
 unfold zio;rw [this];simp only [Option.bind_some,Int.toNat_natCast,zir]
noncomputable def enl (xs:List D):List D:=xs.mapIdx fun i x=>.tup [.int i,x]
theorem zrc (xs:List D):(enl xs).length=xs.length:=by simp [enl]
theorem zrd (xs:List D) (i:Nat):(enl xs)[i]? = (xs[i]?).map fun x=>.tup [.int i,x]:=by simp [enl,List.getElem?_mapIdx]
theorem yb6 {xs:List D}{i:Nat}{S:Sto}:itN (itX xs) i S=some (enl xs)[i]?:=by
 rw [zrd];rfl
theorem yb7 {as:AM}{l:Lo}{S S1:Sto}{xs:List D}(h:as l S=some ([.tup xs],S1)):zj6 as l S=some (itN (itX xs),(enl xs).length+1,S1):=by
 unfold zj6;rw [h,zrc];rfl
theorem yb8 {e:EM}{l:Lo}{S S1:Sto}{xs:List D}(h:e l S=some (.tup xs,S1)):zf3 e l S=some (itX xs,xs.length+1,S1):=by
 unfold zf3;rw [h];rfl
theorem zre {e:EM}{l:Lo}{S S1:Sto}{n:Nat}{xs:List D}(h:e l S=some (.ref n,S1)) (hn:lstOf S1 n=some xs):zf3 e l S=some (itL n,xs.length+1,S1):=by
 unfold zf3;rw [h];show (lstOf S1 n).bind _=_;rw [hn];rfl
theorem zmm {n i:Nat}{S:Sto}{xs:List D}(hn:lstOf S n=some xs):itL n i S=some xs[i]?:=by unfold itL;rw [hn];rfl
section
variable {g:GM}{b:SM}
theorem zka (P:Nat->Lo->Sto->Prop) (O:D->Sto->Prop):∀(xs:List D) (k:Nat) (l:Lo) (S:Sto),P k l S ->
  (∀(i:Nat) x l S,xs[i]? = some x->P (k+i) l S->Wg (g x l S) fun l1 S1=>Ws b l1 S1 fun f l2 S2=>((f=.nx∨f=.ct)/\P (k+i+1) l2 S2)∨∃d,f=.rt d/\O d S2) ->
  Wr (zby g b xs l S) fun f l' S'=>(f=.nx/\P (k+xs.length) l' S')∨∃d,f=.rt d/\O d S'
 | [],k,l,S,h0,_=>⟨_,_,_,rfl,.inl ⟨rfl,h0⟩⟩
 | x :: xs,k,l,S,h0,hs=>by
  obtain ⟨l1,S1,e1,f,l2,S2,e2,q⟩:=hs 0 x l S rfl h0
  rcases q with ⟨hf,h1⟩|⟨d,rfl,hd⟩
  ·have ih:=zka P O xs (k+1) l2 S2 h1 fun i y l S hy hp=>by
    have:=hs (i+1) y l S (by simpa using hy) (by rw [show k+(i+1)=k+1+i by omega];exact hp)
    rw [show k+(i+1)+1=k+1+i+1 by omega] at this
    exact this
   obtain ⟨f',l',S',e3,q1⟩:=ih
   refine ⟨f',l',S',?_,by rw [List.length_cons,show k+(xs.length+1)=k+1+xs.length by omega];exact q1⟩
   unfold zby
   rw [e1];show (b l1 S1).bind _=_;rw [e2]
   rcases hf with rfl|rfl <;> exact e3
  ·refine ⟨_,l2,S2,?_,.inr ⟨d,rfl,hd⟩⟩
   unfold zby
   rw [e1];show (b l1 S1).bind _=_;rw [e2];rfl
theorem zkb (P:Nat->Lo->Sto->Prop) (O:D->Sto->Prop) {as:AM}{l:Lo}{S S1:Sto}{n:Nat}{QS:Fl->Lo->Sto->Prop}(h:as l S=some ([.int (n:Int)],S1)) (hn:n<1000000000) (h0:P 0 l S1)
  (step:∀(i:Nat) l S,i<n->P i l S->Wg (g (.int i) l S) fun l1 S1=>Ws b l1 S1 fun f l2 S2=>((f=.nx∨f=.ct)/\P (i+1) l2 S2)∨∃d,f=.rt d/\O d S2)
  (fin:∀l' S',P n l' S'->QS .nx l' S') (out:∀d l' S',O d S'->QS (.rt d) l' S'):Ws (zdk (zb3 as) g b) l S QS:=by
 rw [zze]
 refine ⟨_,_,h,(n:Int),rfl,⟨by omega,by omega⟩,?_⟩
 rw [Int.toNat_natCast]
 refine (zka P O (zbm 0 n) 0 l S1 h0 ?_).mono ?_
 ·intro i x l S hx hp
  obtain ⟨hi,rfl⟩:=zjx hx
  rw [Nat.zero_add] at hp
  have:=step i l S hi hp
  rw [Int.zero_add,Nat.zero_add]
  exact this
 ·rintro f l' S' (⟨rfl,hp⟩|⟨d,rfl,hd⟩)
  ·rw [zir,Nat.zero_add] at hp;exact fin l' S' hp
  ·exact out d l' S' hd
end
section
variable {S:Sto}{Q:D->Sto->Prop}{l:Lo}
theorem zdy {i j:Int}:Wo (zaz (.int i) (.int j) S) Q=Q (.int (i+j)) S:=zbe
theorem zdz {xs ys:List D}:Wo (zaz (.tup xs) (.tup ys) S) Q=(xs.length+ys.length<=sizeLine/\Q (.tup (xs++ys)) S):=zgp
theorem yb9 {n m:Nat}{xs ys:List D}(h1:S[n]? = some (.lst xs)) (h2:S[m]? = some (.lst ys)):Wo (zaz (.ref n) (.ref m) S) Q=(xs.length+ys.length<=sizeLine/\Q (.ref S.length) (S++[.lst (xs++ys)])):=by
 show Wo (match S[n]?,S[m]? with|some (.lst xs),some (.lst ys)=>if xs.length+ys.length<=sizeLine then some (.ref S.length,S++[.lst (xs++ys)]) else none|_,_=>none) Q=_
 rw [h1,h2];exact zgp
theorem zfq {k:Bool}:Wo (zhk [.bl k] S) Q=Q (.int (if k then 1 else 0)) S:=zbe
noncomputable def Wp (o:OM) (l:Lo) (S:Sto) (Q:Option Int->Sto->Prop):Prop:=∃v S',o l S=some (v,S')/\Q v S'
theorem zd0 {Q:Option Int->Sto->Prop}:Wp zb7 l S Q=Q none S:=by
 apply propext
 exact ⟨fun hx1_=>by obtain ⟨v,S',h,q⟩:=hx1_;cases h;exact q,fun q=>⟨_,_,rfl,q⟩⟩
theorem zd1 {e:EM}{Q:Option Int->Sto->Prop}:Wp (zb2 e) l S Q=We e l S fun x S1=>∃i,x=.int i/\Q (some i) S1:=by
 apply propext
 constructor
 ·rintro ⟨v,S',h,q⟩
  obtain ⟨⟨x,S1⟩,h1,h⟩:=bnd h
  refine ⟨x,S1,h1,?_⟩
  cases x with
  | int i=>cases h;exact ⟨i,rfl,q⟩
  | _=>cases h
 ·rintro ⟨x,S1,h1,i,rfl,q⟩
  exact ⟨_,S1,by unfold zb2;rw [h1];rfl,q⟩
theorem zd2 {b:Int}{p:Int->Prop}:(∃k,D.int b=D.int k/\p k)=p b:=by
 apply propext;constructor
 ·rintro ⟨d,h,q⟩;cases h;exact q
 ·exact fun q=>⟨b,rfl,q⟩
noncomputable def slA (x:D) (a b:Option Int) (S:Sto):Option (D × Sto):=match x with
 | .tup xs=>some (.tup (zbw xs a b),S)
 | .ref n=>(lstOf S n).bind fun xs=>some (.ref S.length,S++[.lst (zbw xs a b)])
 | .str z=>if z.length<=sizeLine then some (.str (Txt.slice z a b),S) else none
 | _=>none
theorem zd3 {m:EM}{lo hi:OM}:We (zb5 m lo hi) l S Q=We m l S fun x S1=>Wp lo l S1 fun a S2=>Wp hi l S2 fun b S3=>Wo (slA x a b S3) Q:=by
 apply propext
 constructor
 ·rintro ⟨v,S',h,q⟩
  obtain ⟨⟨x,S1⟩,h1,h⟩:=bnd h
  obtain ⟨⟨a,S2⟩,h2,h⟩:=bnd h
  obtain ⟨⟨b,S3⟩,h3,h⟩:=bnd h
  exact ⟨x,S1,h1,a,S2,h2,b,S3,h3,v,S',h,q⟩
 ·rintro ⟨x,S1,h1,a,S2,h2,b,S3,h3,v,S',h,q⟩
  refine ⟨v,S',?_,q⟩
  unfold zb5;rw [h1];show (lo l S1).bind _=_;rw [h2];show (hi l S2).bind _=_;rw [h3];exact h
theorem zd4 {xs:List D}{a b:Option Int}:Wo (slA (.tup xs) a b S) Q=Q (.tup (zbw xs a b)) S:=zbe
theorem yca {n:Nat}{xs:List D}{a b:Option Int}(h:lstOf S n=some xs):Wo (slA (.ref n) a b S) Q=Q (.ref S.length) (S++[.lst (zbw xs a b)]):=by
 show Wo ((lstOf S n).bind fun xs=>some (.ref S.length,S++[.lst (zbw xs a b)])) Q=_
 rw [h];exact zbe
end
section
variable {it:ItM}{im:IM}{g:GM}{b:SM}
theorem zrf (xs:List D) (P:Nat->Lo->Sto->Prop) (O:D->Sto->Prop) (hit:∀i l S,P i l S->it i S=some xs[i]?)
  (step:∀(i:Nat) x l S,xs[i]? = some x->P i l S->Wg (g x l S) fun l1 S1=>Ws b l1 S1 fun f l2 S2=>((f=.nx∨f=.ct)/\P (i+1) l2 S2)∨∃d,f=.rt d/\O d S2) :
  ∀(n i:Nat) (l:Lo) (S:Sto),n+i=xs.length->P i l S->Wr (zdx it g b (n+1) i l S) fun f l' S'=>(f=.nx/\P xs.length l' S')∨∃d,f=.rt d/\O d S'
 | 0,i,l,S,hn,h=>by
  have hi:i=xs.length:=by omega
  have e0:=hit i l S h
  rw [List.getElem?_eq_none_iff.mpr (by omega)] at e0
  refine ⟨.nx,l,S,?_,.inl ⟨rfl,by rw [←hi];exact h⟩⟩
  unfold zdx;rw [e0];rfl
 | n+1,i,l,S,hn,h=>by
  have hi:i<xs.length:=by omega
  have e0:=hit i l S h
  rw [qge hi] at e0
  obtain ⟨l1,S1,e1,f,l2,S2,e2,q⟩:=step i _ l S (qge hi) h
  rcases q with ⟨hf,h1⟩|⟨d,rfl,hd⟩
  ·obtain ⟨f',l',S',e3,q1⟩:=zrf xs P O hit step n (i+1) l2 S2 (by omega) h1
   refine ⟨f',l',S',?_,q1⟩
   unfold zdx;rw [e0];show (g _ l S).bind _=_;rw [e1];show (b l1 S1).bind _=_;rw [e2]
   rcases hf with rfl|rfl <;> exact e3
  ·refine ⟨_,l2,S2,?_,.inr ⟨d,rfl,hd⟩⟩
   unfold zdx;rw [e0];show (g _ l S).bind _=_;rw [e1];show (b l1 S1).bind _=_;rw [e2];rfl
theorem zrg (xs:List D) (P:Nat->Lo->Sto->Prop) (O:D->Sto->Prop) {l:Lo}{S S1:Sto}{QS:Fl->Lo->Sto->Prop}(him:im l S=some (it,xs.length+1,S1)) (h0:P 0 l S1) (hit:∀i l S,P i l S->it i S=some xs[i]?)
  (step:∀(i:Nat) x l S,xs[i]? = some x->P i l S->Wg (g x l S) fun l1 S1=>Ws b l1 S1 fun f l2 S2=>((f=.nx∨f=.ct)/\P (i+1) l2 S2)∨∃d,f=.rt d/\O d S2)
  (fin:∀l' S',P xs.length l' S'->QS .nx l' S') (out:∀d l' S',O d S'->QS (.rt d) l' S'):Ws (zit im g b) l S QS:=by
 obtain ⟨f,l',S',e,q⟩:=zrf (it:=it) (g:=g) (b:=b) xs P O hit step xs.length 0 l S1 rfl h0
 refine ⟨f,l',S',by unfold zit;rw [him];exact e,?_⟩
 rcases q with ⟨rfl,h⟩|⟨d,rfl,h⟩
 ·exact fin l' S' h
 ·exact out d l' S' h
theorem zrh {e:EM}(xs:List D) (P:Nat->Lo->Sto->Prop) (O:D->Sto->Prop) {l:Lo}{S S1:Sto}{QS:Fl->Lo->Sto->Prop}(he:e l S=some (.tup xs,S1)) (h0:P 0 l S1)
  (step:∀(i:Nat) x l S,xs[i]? = some x->P i l S->Wg (g x l S) fun l1 S1=>Ws b l1 S1 fun f l2 S2=>((f=.nx∨f=.ct)/\P (i+1) l2 S2)∨∃d,f=.rt d/\O d S2)
  (fin:∀l' S',P xs.length l' S'->QS .nx l' S') (out:∀d l' S',O d S'->QS (.rt d) l' S'):Ws (zgo e g b) l S QS:=by
 rw [zqf]
 refine ⟨_,_,he,?_⟩
 refine (zka P O xs 0 l S1 h0 ?_).mono ?_
 ·intro i x l S hx hp
  rw [Nat.zero_add] at hp ⊢
  exact step i x l S hx hp
 ·rintro f l' S' (⟨rfl,hp⟩|⟨d,rfl,hd⟩)
  ·rw [Nat.zero_add] at hp;exact fin l' S' hp
  ·exact out d l' S' hd
end
theorem ycb {n:Nat}(h:n<1000000):((n:Nat):Int).natAbs.log2<1920:=by
 by_cases hz:n=0
 ·subst hz;decide
 ·have h1:((n:Nat):Int).natAbs=n:=by omega
  rw [h1]
  have h2:n.log2<20:=(Nat.log2_lt hz).mpr (Nat.lt_of_lt_of_le h (by decide))
  omega
section
variable {l:Lo}{S:Sto}{Q:D->Sto->Prop}{QG:Lo->Sto->Prop}{a b c:EM}
theorem zfr {x:Str}:We (zmh x) l S Q=Q (.ref S.length) (S++[.fnc x]):=by
 apply propext
 exact ⟨fun hx1_=>by obtain ⟨v,S',h,q⟩:=hx1_;cases h;exact q,fun q=>⟨_,_,rfl,q⟩⟩
theorem zfs {tab:List (Str × FM)}{as:AM}:We (zj8 tab a as) l S Q=We a l S fun v S1=>∃x,zhn S1 v=some x/\∃m,tab.lookup x=some m/\Wa as l S1 fun ys S2=>Wo (m ys S2) Q:=by
 apply propext
 constructor
 ·rintro ⟨v,S',h,q⟩
  obtain ⟨⟨x,S1⟩,h1,h⟩:=bnd h
  obtain ⟨n,h2,h⟩:=bnd h
  obtain ⟨m,h3,h⟩:=bnd h
  obtain ⟨⟨ys,S2⟩,h4,h⟩:=bnd h
  exact ⟨x,S1,h1,n,h2,m,h3,ys,S2,h4,v,S',h,q⟩
 ·rintro ⟨x,S1,h1,n,h2,m,h3,ys,S2,h4,v,S',h,q⟩
  refine ⟨v,S',?_,q⟩
  unfold zj8;rw [h1];show (zhn S1 x).bind _=_;rw [h2];show (tab.lookup n).bind _=_;rw [h3];show (as l S1).bind _=_;rw [h4];exact h
theorem ycc {neg:Bool}{ds:List D}{n:Nat}{ks:List (List Int)}{k:List Int}(h:S[n]? = some (.tset ks)) (hk:zcc ds=some k):Wo (zgt neg (.tup ds) (.ref n) S) Q=Q (.bl (if neg then !decide (k∈ks) else decide (k∈ks))) S:=by
 have:zgt neg (.tup ds) (.ref n) S=some (.bl (if neg then !decide (k∈ks) else decide (k∈ks)),S):=by
  unfold zgt;dsimp only;rw [h];dsimp only;rw [hk];rfl
 rw [this];exact zbe
theorem ycd {ds:List D}{n:Nat}{ks:List (List Int)}{k:List Int}(h:S[n]? = some (.tset ks)) (hk:zcc ds=some k) (hz:ks.length<1000) (hn:k ∉ ks):Wo (zgs (.ref n) [.tup ds] S) Q=Q .non (S.set n (.tset (ks++[k]))):=by
 have:zgs (.ref n) [.tup ds] S=some (.non,S.set n (.tset (ks++[k]))):=by
  unfold zgs;dsimp only;rw [h];dsimp only;rw [hk];show (if _ then _ else _)=_;rw [if_pos hz,if_neg hn]
 rw [this];exact zbe
theorem yce {n:Nat}{ks:List (List Int)}(h:S[n]? = some (.tset ks)):zhm S (.ref n)=some ():=by unfold zhm;dsimp only;rw [h]
theorem ycf {f:D->List D->Sto->Option (D × Sto)}{r:AM}:We (zj7 f a r) l S Q=We a l S fun x S1=>zhm S1 x=some ()/\Wa r l S1 fun ys S2=>Wo (f x ys S2) Q:=by
 apply propext
 constructor
 ·rintro ⟨v,S',h,q⟩
  obtain ⟨⟨x,S1⟩,h1,h⟩:=bnd h
  obtain ⟨_,h2,h⟩:=bnd h
  obtain ⟨⟨y,S2⟩,h3,h⟩:=bnd h
  exact ⟨x,S1,h1,h2,y,S2,h3,v,S',h,q⟩
 ·rintro ⟨x,S1,h1,h2,y,S2,h3,v,S',h,q⟩
  refine ⟨_,_,?_,q⟩
  unfold zj7;rw [h1];show (zhm S1 x).bind _=_;rw [h2];show (r l S1).bind _=_;rw [h3];exact h
theorem ycg {i:Nat}{ds:List D}{k:List Int}(h:l[i]? = some (some (.tup ds))) (hk:zcc ds=some k):We (ziw (zaa i)) l S Q=Q (.ref S.length) (S++[.tset [k]]):=by
 have:ziw (zaa i) l S=some (.ref S.length,S++[.tset [k]]):=by
  unfold ziw zaa
  rw [h]
  show (zcc ds).bind _=_
  rw [hk]
  show (match (S++[Ob.tset []])[S.length]? with|some (.tset [])=>_|_=>none)=_
  rw [zfx]
  show some (_,(S++[Ob.tset []]).set S.length (.tset [k]))=_
  rw [zra]
 apply propext
 constructor
 ·rintro ⟨v,S',e,q⟩;rw [this] at e;cases e;exact q
 ·exact fun q=>⟨_,_,this,q⟩
end
theorem zri {c:TM}{b:SM}(I:Nat->Lo->Sto->Prop) (O:D->Sto->Prop) (Q:Lo->Sto->Prop)
  (step:∀m l S,I m l S->Wt c l S fun k S1=>if k=true then Ws b l S1 fun f l2 S2=>((f=.nx∨f=.ct)/\∃m',m' < m/\I m' l2 S2)∨∃d,f=.rt d/\O d S2 else Q l S1) :
  ∀(fuel m:Nat),m<fuel->∀l S,I m l S->Wr (whl c b fuel l S) fun f l' S'=>(f=.nx/\Q l' S')∨∃d,f=.rt d/\O d S'
 | 0,m,h,_,_,_=>absurd h (Nat.not_lt_zero _)
 | fuel+1,m,h,l,S,hi=>by
  obtain ⟨k,S1,e1,h1⟩:=step m l S hi
  cases k with
  | false=>exact ⟨.nx,l,S1,by unfold whl;rw [e1];rfl,.inl ⟨rfl,h1⟩⟩
  | true =>
   have h1:Ws b l S1 fun f l2 S2=>((f=.nx∨f=.ct)/\∃m',m' < m/\I m' l2 S2)∨∃d,f=.rt d/\O d S2:=h1
   obtain ⟨f,l2,S2,e2,q⟩:=h1
   rcases q with ⟨hf,m',hm,hi2⟩|⟨d,rfl,hd⟩
   ·obtain ⟨f',l',S',e3,q⟩:=zri I O Q step fuel m' (by omega) l2 S2 hi2
    refine ⟨f',l',S',?_,q⟩
    unfold whl;rw [e1];show (b l S1).bind _=_;rw [e2]
    rcases hf with rfl|rfl <;> exact e3
   ·refine ⟨_,l2,S2,?_,.inr ⟨d,rfl,hd⟩⟩
    unfold whl;rw [e1];show (b l S1).bind _=_;rw [e2];rfl
theorem ych {c:TM}{b:SM}(I:Nat->Lo->Sto->Prop) (O:D->Sto->Prop) (Q:Lo->Sto->Prop) {l:Lo}{S:Sto}{QS:Fl->Lo->Sto->Prop}(m:Nat) (hm:m<1000000) (h0:I m l S)
  (step:∀m l S,I m l S->Wt c l S fun k S1=>if k=true then Ws b l S1 fun f l2 S2=>((f=.nx∨f=.ct)/\∃m',m' < m/\I m' l2 S2)∨∃d,f=.rt d/\O d S2 else Q l S1)
  (fin:∀l' S',Q l' S'->QS .nx l' S') (out:∀d l' S',O d S'->QS (.rt d) l' S'):Ws (whl c b zj1) l S QS:=by
 refine Wr.mono (zri I O Q step zj1 m hm l S h0) ?_
 rintro f l' S' (⟨rfl,h⟩|⟨d,rfl,h⟩)
 ·exact fin l' S' h
 ·exact out d l' S' h
theorem za0 {m n:SM}{l l':Lo}{S S':Sto}{QS:Fl->Lo->Sto->Prop}(h1:Ws m l S fun f l1 S1=>f=.nx/\l1=l'/\S1=S') (h2:Ws n l' S' QS):Ws (zak m n) l S QS:=by
 rw [zdt]
 obtain ⟨f,l1,S1,e,rfl,rfl,rfl⟩:=h1
 exact ⟨_,_,_,e,h2⟩
theorem zgw {m n:SM}{l:Lo}{S:Sto}{QS:Fl->Lo->Sto->Prop}(R:Lo->Sto->Prop) (O:D->Sto->Prop) (h1:Ws m l S fun f l1 S1=>(f=.nx/\R l1 S1)∨∃d,f=.rt d/\O d S1) (h2:∀l1 S1,R l1 S1->Ws n l1 S1 QS) (h3:∀d l1 S1,O d S1->QS (.rt d) l1 S1):Ws (zak m n) l S QS:=by
 rw [zdt]
 obtain ⟨f,l1,S1,e,q⟩:=h1
 rcases q with ⟨rfl,r⟩|⟨d,rfl,o⟩
 ·exact ⟨_,_,_,e,h2 l1 S1 r⟩
 ·exact ⟨_,_,_,e,h3 d l1 S1 o⟩
theorem Gr.set {A B:Sto}{r:Nat}(h:Gr A B) (hr:A.length<=r) (o:Ob):Gr A (B.set r o):=by
 obtain ⟨x,rfl⟩:=h
 exact ⟨x.set (r-A.length) o,by rw [List.set_append_right _ _ hr]⟩
theorem zkc {S:Sto}{n:Nat}{xs:List D}(h:S[n]? = some (.lst xs)):lstOf S n=some xs:=by unfold lstOf;rw [h]
theorem zb9 {S:Sto}{o:Ob}:(S++[o])[S.length]? = some o:=zfx S o
theorem zf8 {S:Sto}{n:Nat}{o o':Ob}(h:S[n]? = some o):(S++[o'])[n]? = some o:=by
 rw [List.getElem?_append_left (qme h).1];exact h
theorem zmn {S:Sto}{n:Nat}{o o':Ob}(h:S[n]? = some o):(S.set n o')[n]? = some o':=List.getElem?_set_self (qme h).1
theorem zd5 {S:Sto}{n m:Nat}{o o':Ob}(h:S[m]? = some o) (hn:n≠m):(S.set n o')[m]? = some o:=by rw [List.getElem?_set_ne hn];exact h
theorem zhq {S:Sto}{n:Nat}{xs:List D}{x:D}{Q:D->Sto->Prop}(h:S[n]? = some (.lst xs)) (hz:xs.length<sizeLine):Wo (zcy (.ref n) [x] S) Q=Q .non (S.set n (.lst (xs++[x]))):=by
 rw [zzd,h]
 apply propext
 constructor
 ·rintro ⟨ys,e,_,q⟩;cases e;exact q
 ·exact fun q=>⟨xs,rfl,hz,q⟩
theorem zf9 {S:Sto}{n:Nat}{xs:List D}(h:S[n]? = some (.lst xs)):zhc (.ref n) S=some xs:=zkc h
end L3
section
namespace G
open PySem PySem.Spec PyProof.Rows L2 L3
noncomputable abbrev bd:List Stmt:=PySem.Challenge.pw_opencells_k20_whole_standing_goes_on.main.body
noncomputable def zrj:SM:=zak (sIf (zcp (tE (eOp zdq (eOp zaj (zaa 0) (eC (.int 1))) (eC .non))) (tE (eOp dNe (eOp zaj (zaa 1) (eC (.int 1))) (eOp zaj (zaa 0) (eC (.int 1)))))) (za4 (eC (.str "says"))) (zbl)) (zak (sIf (zcp (tE (eOp zdq (eOp zaj (zaa 0) (eC (.int 0))) (eC .non))) (tE (eOp dIs (eOp zaj (zaa 1) (eC (.int 0))) (eC .non)))) (za4 (eC (.str "goes"))) (zbl)) (za4 (eC .non)))
noncomputable def zgx:FM:=zbs 2 zrj
noncomputable def zrk:SM:=za4 (eOp zdq (zaf zgx (zac (zaa 0) (zac (zaa 1) (zae)))) (eC .non))
noncomputable def zft:FM:=zbs 2 zrk
noncomputable def zrl:SM:=zak (zap (zaf zc5 (zac (zaa 2) (zae))) (zal 4)) (zak (zap (zaf zc5 (zac (zaf zaw (zae)) (zae))) (zal 5)) (zak (zap (ziw (zaa 2)) (zal 6)) (zak (zap (eC (.int 0)) (zal 7)) (zak (whl (tE (eOp dLt (zaa 7) (zaf zbx (zac (zaa 4) (zae))))) (zak (zap (eOp zaj (zaa 4) (zaa 7)) (zcs 2 (zbf (zal 8) (zbf (zal 9) (zcr))))) (zak (zap (eOp zaj (zaa 5) (zaa 7)) (zal 10)) (zak (zap (eOp zlh (zaa 7) (eC (.int 1))) (zal 7)) (zdk (zb3 (zac (eOp zaj (zaa 0) (eC (.int 0))) (zae))) (zal 11) (zak (zap (eOp zaj (eOp zaj (eOp zaj (zaa 0) (eC (.int 1))) (zaa 8)) (zaa 11)) (zal 12)) (zak (zap (eOp zaj (eOp zaj (eOp zaj (zaa 1) (eC (.int 1))) (zaa 9)) (zaa 11)) (zal 13)) (zak (sIf (tE (zj8 [("lacks",zft)] (zaa 3) (zac (zaa 12) (zac (zaa 13) (zae))))) (za4 (zaf zaw (zac (eOp zaz (zaa 10) (zaf zaw (zac (zaa 11) (zae)))) (zac (zaa 4) (zae))))) (zbl)) (zak (zap (zaf zaw (zac (eOp zaj (zaa 12) (eC (.int 0))) (zac (eOp zaj (zaa 13) (eC (.int 0))) (zae)))) (zal 14)) (sIf (zcp (tE (eOp (dIn true) (eC .non) (zaa 14))) (tE (eOp (zgt true) (zaa 14) (zaa 6)))) (zak (zc8 (zj7 zgs (zaa 6) (zac (zaa 14) zae))) (zak (zc8 (zcz zcy (zaa 4) (zac (zaa 14) zae))) (zc8 (zcz zcy (zaa 5) (zac (eOp zaz (zaa 10) (zaf zaw (zac (zaa 11) (zae)))) zae))))) (zbl)))))))))) zj1) (za4 (zaf zaw (zac (eC .non) (zac (zaa 4) (zae)))))))))
noncomputable def zhr:FM:=zbs 15 zrl
noncomputable def zrm:SM:=sIf (tE (eOp dNe (eOp zaj (zaa 0) (eC (.int 0))) (eOp zaj (zaa 1) (eC (.int 0))))) (zpy) (zbl)
noncomputable def zgy:FM:=zbs 2 zrm
noncomputable def zrn:SM:=zak (zc8 (zaf zgy (zac (zaa 0) (zac (zaa 1) (zae))))) (zak (zap (zaf zhr (zac (zaa 0) (zac (zaa 1) (zac (zaf zaw (zac (eC (.int 0)) (zac (eC (.int 0)) (zae)))) (zac (zmh "lacks") (zae)))))) (zcs 2 (zbf (zal 2) (zbf (zal 3) (zcr))))) (zak (sIf (tE (eOp dIs (zaa 2) (eC .non))) (za4 (zaf zaw (zac (eC (.str "yes")) (zac (zaf zhp (zac (zaa 3) (zae))) (zae))))) (zbl)) (za4 (zaf zaw (zac (eC (.str "no")) (zac (zaa 2) (zae)))))))
noncomputable def zd6:FM:=zbs 4 zrn
noncomputable def zro:SM:=zak (zap (eOp zaj (zaa 0) (eC (.int 1))) (zal 3)) (zak (zap (zaf zc5 (zae)) (zal 4)) (zak (zap (zaa 1) (zal 5)) (zak (zgo (zaa 2) (zal 6) (zak (sIf (tE (eOp dIs (zaa 5) (eC .non))) (zjt) (zbl)) (zak (zap (eOp zaj (eOp zaj (zaa 3) (zaa 5)) (zaa 6)) (zcs 2 (zbf (zal 5) (zbf (zal 7) (zcr))))) (zc8 (zcz zcy (zaa 4) (zac (zaa 7) zae)))))) (za4 (zaf zaw (zac (zaa 4) (zac (zaa 5) (zae))))))))
noncomputable def zd7:FM:=zbs 8 zro
noncomputable def zrp:SM:=zak (zap (eOp zaj (zaf zd7 (zac (zaa 0) (zac (eC (.int 0)) (zac (zb5 (zaa 1) (zb7) (zb2 (eUn zff (eC (.int 1))))) (zae))))) (eC (.int 1))) (zal 3)) (zak (zap (eOp zaj (eOp zaj (eOp zaj (zaa 0) (eC (.int 1))) (zaa 3)) (eOp zaj (zaa 1) (eUn zff (eC (.int 1))))) (zcs 2 (zbf (zal 4) (zbf (zal 5) (zcr))))) (zak (zap (eOp zaj (zaf zc5 (zac (zaf zaw (zac (eC .non) (zac (zaa 5) (zae)))) (zac (zaf zaw (zac (zaa 4) (zac (eC .non) (zae)))) (zae)))) (zaf zhk (zac (zaa 2) (zae)))) (zal 6)) (zak (zap (eOp zaz (eOp zaz (zb5 (eOp zaj (eOp zaj (zaa 0) (eC (.int 1))) (zaa 3)) (zb7) (zb2 (eOp zaj (zaa 1) (eUn zff (eC (.int 1)))))) (zaf zaw (zac (zaa 6) (zae)))) (zb5 (eOp zaj (eOp zaj (zaa 0) (eC (.int 1))) (zaa 3)) (zb2 (eOp zaz (eOp zaj (zaa 1) (eUn zff (eC (.int 1)))) (eC (.int 1)))) (zb7))) (zal 7)) (za4 (zaf zaw (zac (eOp zaj (zaa 0) (eC (.int 0))) (zac (eOp zaz (eOp zaz (zb5 (eOp zaj (zaa 0) (eC (.int 1))) (zb7) (zb2 (zaa 3))) (zaf zaw (zac (zaa 7) (zae)))) (zb5 (eOp zaj (zaa 0) (eC (.int 1))) (zb2 (eOp zaz (zaa 3) (eC (.int 1)))) (zb7))) (zae))))))))
noncomputable def zhs:FM:=zbs 8 zrp
noncomputable def zrq:SM:=zak (zap (zaf zd7 (zac (zaa 0) (zac (eC (.int 0)) (zac (zaa 2) (zae))))) (zcs 2 (zbf (zal 3) (zbf (zal 4) (zcr))))) (zak (zap (zaf zd7 (zac (zaa 1) (zac (eC (.int 0)) (zac (zaa 2) (zae))))) (zcs 2 (zbf (zal 5) (zbf (zal 6) (zcr))))) (zak (zap (zfy (eOp zdq (eOp zaj (zaa 3) (eUn zff (eC (.int 1)))) (eC .non)) (zg8 (eOp dLt (zaf zbx (zac (zaa 5) (zae))) (zaf zbx (zac (zaa 2) (zae)))) (eOp dNe (eOp zaj (zaa 5) (eUn zff (eC (.int 1)))) (eOp zaj (zaa 3) (eUn zff (eC (.int 1))))))) (zal 7)) (za4 (zaf zaw (zac (zaa 7) (zac (zfy (eOp zdq (zaa 4) (eC .non)) (eOp dIs (zaa 6) (eC .non))) (zae)))))))
noncomputable def zep:FM:=zbs 8 zrq
noncomputable def zrr:SM:=zak (zap (eOp zaj (zaf zd7 (zac (zaa 0) (zac (zaa 1) (zac (zaa 2) (zae))))) (eC (.int 0))) (zal 3)) (za4 (eOp dEq (zaf zbx (zac (zaa 3) (zae))) (zaf zbx (zac (zaa 2) (zae)))))
noncomputable def zht:FM:=zbs 4 zrr
noncomputable def zrs:SM:=zak (sIf (zdn (tE (eOp zhg (zaa 2) (zaf zaw (zae)))) (zdn (zg7 (tE (zaf zht (zac (zaa 0) (zac (eC (.int 0)) (zac (zaa 2) (zae))))))) (tE (eOp (dIn true) (eC (.bl true)) (zaf zep (zac (zaa 0) (zac (zaa 1) (zac (zaa 2) (zae))))))))) (za4 (eC (.bl false))) (zbl)) (zak (zdk (zil (zac (eC (.int 1)) (zac (zaf zbx (zac (zaa 2) (zae))) (zae)))) (zal 3) (sIf (tE (eOp (dIn false) (eC (.bl true)) (zaf zep (zac (zaa 0) (zac (zaa 1) (zac (zb5 (zaa 2) (zb7) (zb2 (zaa 3))) (zae))))))) (za4 (eC (.bl false))) (zbl))) (zak (zap (zaa 0) (zal 4)) (zak (zit (zgu (zac (zaf zaw (zac (eC (.bl true)) (zac (eC (.bl false)) (zae)))) (zac (zaf zep (zac (zaa 0) (zac (zaa 1) (zac (zaa 2) (zae))))) (zae)))) (zcs 2 (zbf (zal 5) (zbf (zal 6) (zcr)))) (sIf (tE (zaa 6)) (zap (zaf zhs (zac (zaa 4) (zac (zaa 2) (zac (zaa 5) (zae))))) (zal 4)) (zbl))) (zak (zap (zaf zd6 (zac (zaa 4) (zac (zaa 1) (zae)))) (zal 7)) (za4 (zg8 (eOp dEq (eOp zaj (zaa 7) (eC (.int 0))) (eC (.str "yes"))) (zfy (eOp zhh (eOp zaj (zaa 7) (eC (.int 1))) (zaa 2)) (eOp zgv (zaf zaw (zac (zaf zbx (zac (eOp zaj (zaa 7) (eC (.int 1))) (zae))) (zac (eOp zaj (zaa 7) (eC (.int 1))) (zae)))) (zaf zaw (zac (zaf zbx (zac (zaa 2) (zae))) (zac (zaa 2) (zae))))))))))))
noncomputable def zhu:FM:=zbs 8 zrs
noncomputable def zrt:SM:=zak (zap (zaf zd6 (zac (zaa 0) (zac (zaa 1) (zae)))) (zal 2)) (zak (sIf (tE (eOp dEq (eOp zaj (zaa 2) (eC (.int 0))) (eC (.str "yes")))) (za4 (eC (.bl true))) (zbl)) (zak (sIf (zdn (tE (eOp dNe (eOp zaj (zaa 2) (eC (.int 0))) (eC (.str "no")))) (zg7 (tE (zaf zhu (zac (zaa 0) (zac (zaa 1) (zac (eOp zaj (zaa 2) (eC (.int 1))) (zae)))))))) (za4 (eC .non)) (zbl)) (za4 (eC (.bl false)))))
noncomputable def zeq:FM:=zbs 3 zrt
noncomputable def zru:SM:=zak (sIf (tE (eOp dGt (eOp zaj (zaa 0) (eC (.int 2))) (eC (.int 0)))) (zak (zap (eOp zcq (eOp zaj (zaa 0) (eC (.int 2))) (zaa 1)) (zal 2)) (zak (zap (eOp zjn (eOp zaj (zaa 0) (eC (.int 2))) (zaa 1)) (zgn (zaa 0) (eC (.int 2)))) (za4 (zaa 2)))) (zbl)) (zak (zap (eOp zaj (zaa 0) (eC (.int 1))) (zal 3)) (zak (zap (eOp zaz (zaa 3) (eC (.int 1))) (zgn (zaa 0) (eC (.int 1)))) (zak (zap (eOp zaz (eOp zc1 (eC (.int 7919)) (zaa 3)) (eC (.int 11))) (zal 4)) (zak (sIf (tE (eOp dGt (zaf zbx (zac (eOp zaj (zaa 0) (eC (.int 0))) (zae))) (eC (.int 0)))) (zap (eOp zaj (eOp zaj (zaa 0) (eC (.int 0))) (eOp zcq (zaa 3) (zaf zbx (zac (eOp zaj (zaa 0) (eC (.int 0))) (zae))))) (zal 4)) (zbl)) (zak (sIf (zcp (tE (eOp dLt (zaa 3) (zaf zbx (zac (eOp zaj (zaa 0) (eC (.int 0))) (zae))))) (tE (eOp dGe (zaf zgl (zac (zaa 4) (zae))) (eOp zlj (eC (.int 10)) (eC (.int 18)))))) (zak (zap (eOp zjn (zaf zgl (zac (zaa 4) (zae))) (zaa 1)) (zgn (zaa 0) (eC (.int 2)))) (za4 (eOp zcq (zaf zgl (zac (zaa 4) (zae))) (zaa 1)))) (zbl)) (zak (zap (eOp zaj (zaf zaw (zac (eC (.int 2147483647)) (zac (eC (.int 2147483629)) (zac (eC (.int 2147483587)) (zac (eC (.int 2147483579)) (zac (eC (.int 2147483563)) (zae))))))) (eOp zcq (zaa 3) (eC (.int 5)))) (zal 5)) (zak (zap (eOp zcq (eOp zc1 (eOp zaz (eOp zcq (zaa 4) (eC (.int 2147483549))) (eC (.int 1))) (eOp zaz (eOp zc1 (zaa 3) (zaa 3)) (eC (.int 48271)))) (zaa 5)) (zal 6)) (zak (zap (eOp zcq (eOp zaz (eOp zaz (eOp zlj (zaa 6) (eC (.int 3))) (eOp zc1 (eC (.int 69621)) (zaa 3))) (eC (.int 3))) (eC (.int 2147483543))) (zal 6)) (za4 (eOp zcq (eOp zjn (eOp zcq (eOp zc1 (zaa 6) (eOp zaz (eOp zaz (eOp zcq (zaa 6) (eC (.int 65521))) (zaa 3)) (eC (.int 5)))) (eC (.int 2147483497))) (eC (.int 64))) (zaa 1)))))))))))
noncomputable def za2:FM:=zbs 7 zru
noncomputable def zrv:SM:=zak (zap (zaf za2 (zac (zaa 0) (zac (eC (.int 4)) (zae)))) (zal 2)) (zak (zap (zaf zbx (zac (eOp zaj (zaa 1) (eC (.int 1))) (zae))) (zal 3)) (zak (zap (zaf za2 (zac (zaa 0) (zac (zaa 3) (zae)))) (zal 4)) (zak (zap (zaf za2 (zac (zaa 0) (zac (eOp zaj (zaa 1) (eC (.int 0))) (zae)))) (zal 5)) (zak (zap (eOp zaj (eOp zaj (eOp zaj (zaa 1) (eC (.int 1))) (zaa 4)) (zaa 5)) (zcs 2 (zbf (zal 6) (zbf (zal 7) (zcr))))) (zak (zap (zaf za2 (zac (zaa 0) (zac (zaa 3) (zae)))) (zal 8)) (zak (zap (eOp zaj (zaf zc5 (zac (zaf zaw (zac (zaa 6) (zac (eC .non) (zae)))) (zac (zaf zaw (zac (eC .non) (zac (zaa 7) (zae)))) (zac (zaf zaw (zac (zaa 6) (zac (zaf za2 (zac (zaa 0) (zac (eC (.int 8)) (zae)))) (zae)))) (zac (zaf zaw (zac (zaa 8) (zac (zaa 7) (zae)))) (zae)))))) (zaa 2)) (zal 9)) (zak (zap (eOp zaz (eOp zaz (zb5 (eOp zaj (eOp zaj (zaa 1) (eC (.int 1))) (zaa 4)) (zb7) (zb2 (zaa 5))) (zaf zaw (zac (zaa 9) (zae)))) (zb5 (eOp zaj (eOp zaj (zaa 1) (eC (.int 1))) (zaa 4)) (zb2 (eOp zaz (zaa 5) (eC (.int 1)))) (zb7))) (zal 10)) (za4 (zaf zaw (zac (eOp zaj (zaa 1) (eC (.int 0))) (zac (eOp zaz (eOp zaz (zb5 (eOp zaj (zaa 1) (eC (.int 1))) (zb7) (zb2 (zaa 4))) (zaf zaw (zac (zaa 10) (zae)))) (zb5 (eOp zaj (zaa 1) (eC (.int 1))) (zb2 (eOp zaz (zaa 4) (eC (.int 1)))) (zb7))) (zae))))))))))))
noncomputable def zgz:FM:=zbs 11 zrv
noncomputable def zrw:SM:=zak (zap (zl7 (zb3 (zac (zaa 1) (zae)))) (zal 2)) (za4 (zct (zio (zb3 (zac (zaa 1) (zae)))) [none,some 2,some 0] (zal 0) (zed) (zcz zgq (zaa 1) (zac (zaf za2 (zac (zaa 2) (zac (zaf zbx (zac (zaa 1) (zae))) (zae)))) zae))))
noncomputable def zg0:FM:=zbs 3 zrw
noncomputable def zrx:SM:=zak (zap (eOp zaz (zaf zc5 (zac (eC (.int 0)) (zae))) (zct (zf3 (zaf zg0 (zac (zaa 0) (zac (eOp zli (zaf zbx (zac (eOp zaj (zaa 1) (eC (.int 1))) (zae))) (eC (.int 1))) (zae))))) [none] (zal 0) (zed) (eOp zaz (eC (.int 1)) (zaa 0)))) (zal 2)) (zak (zap (zct (zf3 (zaa 2)) [none] (zal 0) (zed) (zaf zaw (zae))) (zal 3)) (zak (zit (zj6 (zac (eOp zaj (zaa 1) (eC (.int 1))) (zae))) (zcs 2 (zbf (zal 4) (zbf (zal 5) (zcr)))) (zak (zap (zct (zf3 (zaa 5)) [none,none,some 2] (zcs 2 (zbf (zal 0) (zbf (zal 1) (zcr)))) (zed) (zig (tE (eOp dIs (zaa 0) (eC .non))) (eC .non) (eOp zaj (zaa 2) (zaa 0)))) (zal 6)) (zap (zaf zec (zac (zct (zgu (zac (zaa 6) (zac (zaa 5) (zae)))) [none,none] (zcs 2 (zbf (zal 0) (zbf (zal 1) (zcr)))) (zed) (zaf zaw (zac (zaa 0) (zac (eOp zaj (zaa 1) (eC (.int 1))) (zae))))) (zae))) (zgn (zaa 3) (eOp zaj (zaa 2) (zaa 4)))))) (za4 (zaf zaw (zac (eOp zaj (zaa 1) (eC (.int 0))) (zac (zaf zec (zac (zaa 3) (zae))) (zae)))))))
noncomputable def zhv:FM:=zbs 7 zrx
noncomputable def zry:SM:=zak (zap (eOp zaz (eC (.int 1)) (zaf zhk (zac (zfy (eOp dEq (zaf za2 (zac (zaa 0) (zac (eC (.int 2)) (zae)))) (eC (.int 1))) (eOp dLt (zaf zbx (zac (eOp zaj (zaa 1) (eC (.int 1))) (zae))) (eC (.int 13)))) (zae)))) (zal 2)) (zak (zap (eOp zaj (zaf zaw (zac (eC (.int 0)) (zac (eC (.int 3)) (zac (eC (.int 6)) (zac (eC (.int 8)) (zae)))))) (zaf za2 (zac (zaa 0) (zac (eC (.int 4)) (zae))))) (zal 3)) (zak (zap (zaf zbx (zac (eOp zaj (zaa 1) (eC (.int 1))) (zae))) (zal 4)) (zak (zap (zaf zc5 (zae)) (zal 5)) (zak (zdk (zb3 (zac (eOp zc1 (zaa 4) (zaa 2)) (zae))) (zal 6) (zak (zap (zaf zc5 (zae)) (zal 7)) (zak (zgo (eOp zaj (eOp zaj (zaa 1) (eC (.int 1))) (eOp zcq (zaa 6) (zaa 4))) (zcs 2 (zbf (zal 8) (zbf (zal 9) (zcr)))) (zak (sIf (tE (eOp zdq (zaa 8) (eC .non))) (zap (eOp zaz (zaa 8) (eOp zc1 (zaa 4) (zaf za2 (zac (zaa 0) (zac (zaa 2) (zae)))))) (zal 8)) (sIf (tE (eOp dLt (zaf za2 (zac (zaa 0) (zac (eC (.int 8)) (zae)))) (zaa 3))) (zap (zaf za2 (zac (zaa 0) (zac (eOp zc1 (zaa 4) (zaa 2)) (zae)))) (zal 8)) (zbl))) (zak (sIf (zcp (tE (eOp dIs (zaa 9) (eC .non))) (tE (eOp dLt (zaf za2 (zac (zaa 0) (zac (eC (.int 8)) (zae)))) (zaa 3)))) (zap (zaf za2 (zac (zaa 0) (zac (eC (.int 8)) (zae)))) (zal 9)) (zbl)) (zc8 (zcz zcy (zaa 7) (zac (zaf zaw (zac (zaa 8) (zac (zaa 9) (zae)))) zae)))))) (zc8 (zcz zcy (zaa 5) (zac (zaf zec (zac (zaa 7) (zae))) zae)))))) (za4 (zaf zhv (zac (zaa 0) (zac (zaf zaw (zac (eOp zaj (zaa 1) (eC (.int 0))) (zac (zaf zec (zac (zaa 5) (zae))) (zae)))) (zae)))))))))
noncomputable def zga:FM:=zbs 10 zry
noncomputable def zrz:SM:=zak (zap (eC .non) (zal 5)) (zak (zap (eC .non) (zal 6)) (zak (sIf (tE (eOp dGe (zaf za2 (zac (zaa 0) (zac (eC (.int 8)) (zae)))) (zaa 1))) (zap (zaf za2 (zac (zaa 0) (zac (zaa 4) (zae)))) (zal 5)) (zbl)) (zak (sIf (tE (eOp dGe (zaf za2 (zac (zaa 0) (zac (eC (.int 8)) (zae)))) (zaa 1))) (zap (eOp zcq (eOp zaz (zaf za2 (zac (zaa 0) (zac (zaa 2) (zae)))) (zaa 3)) (eC (.int 8))) (zal 6)) (zbl)) (za4 (zaf zaw (zac (zaa 5) (zac (zaa 6) (zae))))))))
noncomputable def zhw:FM:=zbs 7 zrz
noncomputable def zr0:SM:=zak (zap (eOp zaj (zaf zaw (zac (eC (.int 0)) (zac (eC (.int 1)) (zac (eC (.int 3)) (zac (eC (.int 6)) (zae)))))) (zaf za2 (zac (zaa 0) (zac (eC (.int 4)) (zae))))) (zal 3)) (zak (zap (eOp zaj (zaf zaw (zac (eC (.int 1)) (zac (eC (.int 2)) (zac (eC (.int 2)) (zac (eC (.int 8)) (zae)))))) (zaf za2 (zac (zaa 0) (zac (eC (.int 4)) (zae))))) (zal 4)) (zak (zap (eOp dEq (zaf za2 (zac (zaa 0) (zac (eC (.int 3)) (zae)))) (eC (.int 0))) (zal 5)) (zak (zap (zaf za2 (zac (zaa 0) (zac (eC (.int 8)) (zae)))) (zal 6)) (zak (zap (zaf zc5 (zae)) (zal 7)) (zak (zdk (zb3 (zac (zaa 2) (zae))) (zal 8) (sIf (zcp (tE (zaa 5)) (zcp (tE (eOp dGt (zaa 8) (eC (.int 0)))) (tE (eOp dEq (zaf za2 (zac (zaa 0) (zac (eC (.int 2)) (zae)))) (eC (.int 0)))))) (zak (zap (eOp zaj (zaa 7) (zaf za2 (zac (zaa 0) (zac (zaa 8) (zae))))) (zal 9)) (zak (zap (zaf za2 (zac (zaa 0) (zac (zaa 1) (zae)))) (zal 10)) (zc8 (zcz zcy (zaa 7) (zac (eOp zaz (eOp zaz (zb5 (zaa 9) (zb7) (zb2 (zaa 10))) (zaf zaw (zac (zaf zaw (zac (eOp zaj (eOp zaj (zaa 9) (zaa 10)) (eC (.int 0))) (zac (eC .non) (zae)))) (zae)))) (zb5 (zaa 9) (zb2 (eOp zaz (zaa 10) (eC (.int 1)))) (zb7))) zae))))) (zc8 (zcz zcy (zaa 7) (zac (zaf zec (zac (zct (zio (zb3 (zac (zaa 1) (zae)))) [none,some 0,some 3,some 4,some 6,some 2] (zal 0) (zed) (zaf zhw (zac (zaa 1) (zac (zaa 2) (zac (zaa 3) (zac (zaa 4) (zac (zaa 5) (zae)))))))) (zae))) zae))))) (za4 (zaf zaw (zac (zaa 1) (zac (zaf zec (zac (zaa 7) (zae))) (zae))))))))))
noncomputable def zhx:FM:=zbs 11 zr0
noncomputable def zr1:SM:=za4 (zaf zc5 (zac (zb5 (zaa 0) (zb7) (zb2 (eC (.int 63)))) (zac (eC (.int 0)) (zac (eC (.int 0)) (zae)))))
noncomputable def zix:FM:=zbs 1 zr1
noncomputable def zr2:SM:=zak (zap (zaf zix (zac (zaa 0) (zae))) (zal 1)) (zak (zdk (zb3 (zac (eC (.int 3)) (zae))) (zal 2) (zak (zap (zaf za2 (zac (zaa 1) (zac (eC (.int 4)) (zae)))) (zal 3)) (zak (zap (zaf zhx (zac (zaa 1) (zac (eOp zaz (eC (.int 1)) (zaf za2 (zac (zaa 1) (zac (eC (.int 4)) (zae))))) (zac (eOp zaz (eC (.int 1)) (zaf za2 (zac (zaa 1) (zac (eC (.int 8)) (zae))))) (zae))))) (zal 4)) (zak (zap (zaf zga (zac (zaa 1) (zac (zaa 4) (zae)))) (zal 5)) (zak (sIf (tE (eOp dEq (zaa 3) (eC (.int 0)))) (zap (zaf zgz (zac (zaa 1) (zac (zaa 5) (zae)))) (zal 5)) (zbl)) (zak (zap (zaf zga (zac (zaa 1) (zac (zaa 5) (zae)))) (zal 6)) (zak (sIf (tE (eOp dEq (zaa 3) (eC (.int 1)))) (zap (zaf zgz (zac (zaa 1) (zac (zaa 6) (zae)))) (zal 6)) (zbl)) (zak (zap (zaf zc5 (zac (zaf zeq (zac (zaa 4) (zac (zaa 5) (zae)))) (zac (zaf zeq (zac (zaa 5) (zac (zaa 6) (zae)))) (zac (zaf zeq (zac (zaa 4) (zac (zaa 6) (zae)))) (zae))))) (zal 7)) (zak (sIf (zdn (tE (eOp (dIn false) (eC .non) (zaa 7))) (zdn (zcp (tE (eOp zaj (zaa 7) (eC (.int 0)))) (zcp (tE (eOp zaj (zaa 7) (eC (.int 1)))) (zg7 (tE (eOp zaj (zaa 7) (eC (.int 2))))))) (zcp (tE (eOp dGt (zaa 3) (eC (.int 1)))) (tE (eOp (dIn false) (eC (.bl false)) (zaa 7)))))) (za4 (eC (.bl false))) (zbl)) (zak (sIf (zdn (tE (eOp dIs (zaf zeq (zac (zaa 5) (zac (zaa 4) (zae)))) (eC .non))) (tE (eOp dIs (zaf zeq (zac (zaa 6) (zac (zaa 4) (zae)))) (eC .non)))) (za4 (eC (.bl false))) (zbl)) (zgo (zaf zaw (zac (zaa 4) (zac (zaa 5) (zac (zaa 6) (zae))))) (zal 8) (sIf (tE (eOp dNe (eOp zaj (zaf zd6 (zac (zaa 8) (zac (zaa 8) (zae)))) (eC (.int 0))) (eC (.str "yes")))) (za4 (eC (.bl false))) (zbl))))))))))))) (za4 (eC (.bl true))))
noncomputable def zgb:FM:=zbs 9 zr2
theorem bl0 {C:List PySem.Value->Prop}(h:C []):∀us:List PySem.Value,us.length=0->C us:=by
 intro us hl
 rw [List.eq_nil_of_length_eq_zero hl];exact h
theorem blS {n:Nat}{C:List PySem.Value->Prop}(h:∀a (us:List PySem.Value),us.length=n->C (a :: us)):∀us:List PySem.Value,us.length=n+1->C us:=by
 intro us hl
 cases us with
 | nil=>cases hl
 | cons a us=>exact h a us (Nat.succ.inj hl)
theorem bl1 {C:List PySem.Value->Prop}(h:∀a0,C [a0]):∀us:List PySem.Value,us.length=1->C us:=blS fun a0=>bl0 (C:=fun us=>C (a0 :: us)) (h a0)
theorem bl2 {C:List PySem.Value->Prop}(h:∀a0 a1,C [a0,a1]):∀us:List PySem.Value,us.length=2->C us:=blS fun a0=>blS fun a1=>bl0 (C:=fun us=>C (a0 :: a1 :: us)) (h a0 a1)
theorem bl3 {C:List PySem.Value->Prop}(h:∀a0 a1 a2,C [a0,a1,a2]):∀us:List PySem.Value,us.length=3->C us:=blS fun a0=>blS fun a1=>blS fun a2=>bl0 (C:=fun us=>C (a0 :: a1 :: a2 :: us)) (h a0 a1 a2)
theorem bl4 {C:List PySem.Value->Prop}(h:∀a0 a1 a2 a3,C [a0,a1,a2,a3]):∀us:List PySem.Value,us.length=4->C us:=blS fun a0=>blS fun a1=>blS fun a2=>blS fun a3=>bl0 (C:=fun us=>C (a0 :: a1 :: a2 :: a3 :: us)) (h a0 a1 a2 a3)
theorem bl5 {C:List PySem.Value->Prop}(h:∀a0 a1 a2 a3 a4,C [a0,a1,a2,a3,a4]):∀us:List PySem.Value,us.length=5->C us:=blS fun a0=>blS fun a1=>blS fun a2=>blS fun a3=>blS fun a4=>bl0 (C:=fun us=>C (a0 :: a1 :: a2 :: a3 :: a4 :: us)) (h a0 a1 a2 a3 a4)
section
variable {P:Program}{w:World}{K:QFg}{mg:Str->Option Value}{base:Heap}{CA:Str->Addr}
theorem yci:FnScope ["cell","beside"] ["cell","beside"] (zau (top bd 6)):=⟨rfl,rfl,rfl,by decide +kernel,rfl,by decide +kernel,by decide +kernel⟩
theorem h_m_cell_fault {f:Addr}{fd:FuncData}(F:Fun K "cell_fault" "cell_fault" (top bd 6) f fd) (hm:mg "cell_fault" = some (.ref f)):Has P w K mg base "cell_fault" 1 2 zgx:=by
 have sc:=yci
 refine zb8 (k:=0) F hm sc rfl (F.binds (by intro _ _ _ _ _ _ us hl;revert us;exact bl2 fun _ _=>rfl)) fun cdv hcd A outer s H E hr=>?_
 exact zam (zbp (zdg (zeb (zln (zao (zab 0) (zag)) (zbj)) (zf1 (zjs (zao (zab 1) (zag)) (zao (zab 0) (zag)))))) (zas (za9 (zfz))) (zbt)) (zam (zbp (zdg (zeb (zln (zao (zab 0) (zag)) (zbj)) (zf1 (zgk (zao (zab 1) (zag)) (zbj))))) (zas (za9 (zfz))) (zbt)) (zas (za9 (zbj))))
theorem ycj:FnScope ["cell","beside"] ["cell","beside"] (zau (top bd 7)):=⟨rfl,rfl,rfl,by decide +kernel,rfl,by decide +kernel,by decide +kernel⟩
theorem h_m_lacks {f:Addr}{fd:FuncData}(F:Fun K "lacks" "lacks" (top bd 7) f fd) (hm:mg "lacks" = some (.ref f)) (h_m_cell_fault:Has P w K mg base "cell_fault" 1 2 zgx):Has P w K mg base "lacks" 2 2 zft:=by
 have sc:=ycj
 refine zb8 (k:=1) F hm sc rfl (F.binds (by intro _ _ _ _ _ _ us hl;revert us;exact bl2 fun _ _=>rfl)) fun cdv hcd A outer s H E hr=>?_
 exact zas (za9 (zlm (zav h_m_cell_fault hr (by decide) rfl (zad (zab 0) (zad (zab 1) (zah))) (zai (zai zat))) (zbj)))
theorem yck:FnScope ["machine","other","begin","fails","pairs","rows","seen","at","one","two","row","ask","cell","beside","behind"] ["machine","other","begin","fails"] (zau (top bd 4)):=⟨rfl,rfl,rfl,by decide +kernel,rfl,by decide +kernel,by decide +kernel⟩
theorem h_m_walk_both {f:Addr}{fd:FuncData}(F:Fun K "walk_both" "walk_both" (top bd 4) f fd) (hm:mg "walk_both" = some (.ref f)) (z_len:mg "len" = none) (z_range:mg "range" = none) (h_m_lacks:Has P w K mg base "lacks" 2 2 zft) (fn_lacks:Fnc K mg "lacks"):Has P w K mg base "walk_both" 3 4 zhr:=by
 have sc:=yck
 refine zb8 (k:=2) F hm sc rfl (F.binds (by intro _ _ _ _ _ _ us hl;revert us;exact bl4 fun _ _ _ _=>rfl)) fun cdv hcd A outer s H E hr=>?_
 exact zam (zaq 4 sc.nd (zdp (zad (zab 2) (zah)))) (zam (zaq 5 sc.nd (zdp (zad (za1 (zah)) (zah)))) (zam (zaq 6 sc.nd (ya5 hr hcd (zab 2))) (zam (zaq 7 sc.nd (zag)) (zam (zzn zj1 PassesOwn.never (zjo (zab 7) (zcn rfl z_len (zad (zab 4) (zah)))) (zam (zds (zao (zab 4) (zab 7)) (zdj rfl (zbu (za5 8 sc.nd) (zbu (za5 9 sc.nd) (zdi))))) (zam (zaq 10 sc.nd (zao (zab 5) (zab 7))) (zam (zzo 7 sc.nd (zag)) (zas (zjv PassesOwn.never rfl rfl z_range (zad (zao (zab 0) (zag)) (zah)) (za5 11 sc.nd) (zam (zaq 12 sc.nd (zao (zao (zao (zab 0) (zag)) (zab 8)) (zab 11))) (zam (zaq 13 sc.nd (zao (zao (zao (zab 1) (zag)) (zab 9)) (zab 11))) (zam (zbp (zf0 (yba hr (zab 3) (zad (zab 12) (zad (zab 13) (zah))) (zai (zai zat)) (ybb (R:=fun x m=>Fnc _ _ x/\∃k,k<=_/\Has _ _ _ _ _ x k _ m) ⟨fn_lacks,_,(by decide),h_m_lacks⟩))) (zas (za9 (za1 (zad (zbb (zab 10) (za1 (zad (zab 11) (zah)))) (zad (zab 4) (zah)))))) (zbt)) (zam (zaq 14 sc.nd (za1 (zad (zao (zab 12) (zag)) (zad (zao (zab 13) (zag)) (zah))))) (zas (zbp (zdg (zeb (zql (zbj) (zab 14)) (zf1 (ya2 hr (zab 14) (zab 6))))) (zam (zez (yay hr (zab 6) (zab 14))) (zam (zez (zgm (zab 4) (zab 14))) (zas (zez (zgm (zab 5) (zbb (zab 10) (za1 (zad (zab 11) (zah))))))))) (zbt))))))))))))) (zas (za9 (za1 (zad (zbj) (zad (zab 4) (zah))))))))))
theorem ycl:FnScope ["machine","other"] ["machine","other"] (zau (top bd 8)):=⟨rfl,rfl,rfl,by decide +kernel,rfl,by decide +kernel,by decide +kernel⟩
theorem h_m_refuse_unlike {f:Addr}{fd:FuncData}(F:Fun K "refuse_unlike" "refuse_unlike" (top bd 8) f fd) (hm:mg "refuse_unlike" = some (.ref f)):Has P w K mg base "refuse_unlike" 1 2 zgy:=by
 have sc:=ycl
 refine zb8 (k:=0) F hm sc rfl (F.binds (by intro _ _ _ _ _ _ us hl;revert us;exact bl2 fun _ _=>rfl)) fun cdv hcd A outer s H E hr=>?_
 exact zas (zbp (zjs (zao (zab 0) (zag)) (zao (zab 1) (zag))) (zas (zyy)) (zbt))
theorem ycm:FnScope ["machine","other","row","pairs"] ["machine","other"] (zau (top bd 9)):=⟨rfl,rfl,rfl,by decide +kernel,rfl,by decide +kernel,by decide +kernel⟩
theorem h_m_stands {f:Addr}{fd:FuncData}(F:Fun K "stands" "stands" (top bd 9) f fd) (hm:mg "stands" = some (.ref f)) (z_sorted:mg "sorted" = none) (h_m_walk_both:Has P w K mg base "walk_both" 3 4 zhr) (h_m_refuse_unlike:Has P w K mg base "refuse_unlike" 1 2 zgy) (fn_lacks:Fnc K mg "lacks"):Has P w K mg base "stands" 4 2 zd6:=by
 have sc:=ycm
 refine zb8 (k:=3) F hm sc rfl (F.binds (by intro _ _ _ _ _ _ us hl;revert us;exact bl2 fun _ _=>rfl)) fun cdv hcd A outer s H E hr=>?_
 exact zam (zez (zav h_m_refuse_unlike hr (by decide) rfl (zad (zab 0) (zad (zab 1) (zah))) (zai (zai zat)))) (zam (zds (zav h_m_walk_both hr (by decide) rfl (zad (zab 0) (zad (zab 1) (zad (za1 (zad (zag) (zad (zag) (zah)))) (zad (ya8 fn_lacks rfl) (zah))))) (zai (zai (zai (zai zat))))) (zdj rfl (zbu (za5 2 sc.nd) (zbu (za5 3 sc.nd) (zdi))))) (zam (zbp (zgk (zab 2) (zbj)) (zas (za9 (za1 (zad (zfz) (zad (ybv rfl z_sorted (zad (zab 3) (zah))) (zah)))))) (zbt)) (zas (za9 (za1 (zad (zfz) (zad (zab 2) (zah))))))))
theorem ycn:FnScope ["machine","room","row","rooms","answers","here","ask","says"] ["machine","room","row"] (zau (top bd 11)):=⟨rfl,rfl,rfl,by decide +kernel,rfl,by decide +kernel,by decide +kernel⟩
theorem h_m_run {f:Addr}{fd:FuncData}(F:Fun K "run" "run" (top bd 11) f fd) (hm:mg "run" = some (.ref f)):Has P w K mg base "run" 1 3 zd7:=by
 have sc:=ycn
 refine zb8 (k:=0) F hm sc rfl (F.binds (by intro _ _ _ _ _ _ us hl;revert us;exact bl3 fun _ _ _=>rfl)) fun cdv hcd A outer s H E hr=>?_
 exact zam (zaq 3 sc.nd (zao (zab 0) (zag))) (zam (zaq 4 sc.nd (zdp (zah))) (zam (zaq 5 sc.nd (zab 1)) (zam (zlu PassesOwn.never rfl (zab 2) (za5 6 sc.nd) (zam (zbp (zgk (zab 5) (zbj)) (zas (zyx)) (zbt)) (zam (zds (zao (zao (zab 3) (zab 5)) (zab 6)) (zdj rfl (zbu (za5 5 sc.nd) (zbu (za5 7 sc.nd) (zdi))))) (zas (zez (zgm (zab 4) (zab 7))))))) (zas (za9 (za1 (zad (zab 4) (zad (zab 5) (zah)))))))))
theorem yco:FnScope ["_law_machine_here","_law_row","_law_answer_too","_law_room","_law_goes","_law_answer","_law_cell_here","_law_cells"] ["_law_machine_here","_law_row","_law_answer_too"] (zau (top bd 23)):=⟨rfl,rfl,rfl,by decide +kernel,rfl,by decide +kernel,by decide +kernel⟩
theorem h_m_law_opened {f:Addr}{fd:FuncData}(F:Fun K "_law_opened" "_law_opened" (top bd 23) f fd) (hm:mg "_law_opened" = some (.ref f)) (z_int:mg "int" = none) (h_m_run:Has P w K mg base "run" 1 3 zd7):Has P w K mg base "_law_opened" 2 3 zhs:=by
 have sc:=yco
 refine zb8 (k:=1) F hm sc rfl (F.binds (by intro _ _ _ _ _ _ us hl;revert us;exact bl3 fun _ _ _=>rfl)) fun cdv hcd A outer s H E hr=>?_
 exact zam (zaq 3 sc.nd (zao (zav h_m_run hr (by decide) rfl (zad (zab 0) (zad (zag) (zad (zdb (zab 1) (zc6) (zc7 (zgr (zag)))) (zah)))) (zai (zai (zai zat)))) (zag))) (zam (zds (zao (zao (zao (zab 0) (zag)) (zab 3)) (zao (zab 1) (zgr (zag)))) (zdj rfl (zbu (za5 4 sc.nd) (zbu (za5 5 sc.nd) (zdi))))) (zam (zaq 6 sc.nd (zao (zdp (zad (za1 (zad (zbj) (zad (zab 5) (zah)))) (zad (za1 (zad (zab 4) (zad (zbj) (zah)))) (zah)))) (zqs rfl z_int (zad (zab 2) (zah))))) (zam (zaq 7 sc.nd (zbb (zbb (zdb (zao (zao (zab 0) (zag)) (zab 3)) (zc6) (zc7 (zao (zab 1) (zgr (zag))))) (za1 (zad (zab 6) (zah)))) (zdb (zao (zao (zab 0) (zag)) (zab 3)) (zc7 (zbb (zao (zab 1) (zgr (zag))) (zag))) (zc6)))) (zas (za9 (za1 (zad (zao (zab 0) (zag)) (zad (zbb (zbb (zdb (zao (zab 0) (zag)) (zc6) (zc7 (zab 3))) (za1 (zad (zab 7) (zah)))) (zdb (zao (zab 0) (zag)) (zc7 (zbb (zab 3) (zag))) (zc6))) (zah)))))))))
theorem ycp:FnScope ["_law_machine_here","_law_other_here","_law_row","_law_answers","_law_room","_law_others","_law_there","_law_by_answer"] ["_law_machine_here","_law_other_here","_law_row"] (zau (top bd 22)):=⟨rfl,rfl,rfl,by decide +kernel,rfl,by decide +kernel,by decide +kernel⟩
theorem h_m_law_fails_at {f:Addr}{fd:FuncData}(F:Fun K "_law_fails_at" "_law_fails_at" (top bd 22) f fd) (hm:mg "_law_fails_at" = some (.ref f)) (z_len:mg "len" = none) (h_m_run:Has P w K mg base "run" 1 3 zd7):Has P w K mg base "_law_fails_at" 2 3 zep:=by
 have sc:=ycp
 refine zb8 (k:=1) F hm sc rfl (F.binds (by intro _ _ _ _ _ _ us hl;revert us;exact bl3 fun _ _ _=>rfl)) fun cdv hcd A outer s H E hr=>?_
 exact zam (zds (zav h_m_run hr (by decide) rfl (zad (zab 0) (zad (zag) (zad (zab 2) (zah)))) (zai (zai (zai zat)))) (zdj rfl (zbu (za5 3 sc.nd) (zbu (za5 4 sc.nd) (zdi))))) (zam (zds (zav h_m_run hr (by decide) rfl (zad (zab 1) (zad (zag) (zad (zab 2) (zah)))) (zai (zai (zai zat)))) (zdj rfl (zbu (za5 5 sc.nd) (zbu (za5 6 sc.nd) (zdi))))) (zam (zaq 7 sc.nd (zjm (zlm (zao (zab 3) (zgr (zag))) (zbj)) (zhb (zpl (zpp (zcn rfl z_len (zad (zab 5) (zah))) (zcn rfl z_len (zad (zab 2) (zah)))) (zhb (zyi (zao (zab 5) (zgr (zag))) (zao (zab 3) (zgr (zag))))))))) (zas (za9 (za1 (zad (zab 7) (zad (zjm (zlm (zab 4) (zbj)) (zhb (zyj (zab 6) (zbj)))) (zah))))))))
theorem ycq:FnScope ["machine","room","row","answers"] ["machine","room","row"] (zau (top bd 12)):=⟨rfl,rfl,rfl,by decide +kernel,rfl,by decide +kernel,by decide +kernel⟩
theorem h_m_lets {f:Addr}{fd:FuncData}(F:Fun K "lets" "lets" (top bd 12) f fd) (hm:mg "lets" = some (.ref f)) (z_len:mg "len" = none) (h_m_run:Has P w K mg base "run" 1 3 zd7):Has P w K mg base "lets" 2 3 zht:=by
 have sc:=ycq
 refine zb8 (k:=1) F hm sc rfl (F.binds (by intro _ _ _ _ _ _ us hl;revert us;exact bl3 fun _ _ _=>rfl)) fun cdv hcd A outer s H E hr=>?_
 exact zam (zaq 3 sc.nd (zao (zav h_m_run hr (by decide) rfl (zad (zab 0) (zad (zab 1) (zad (zab 2) (zah)))) (zai (zai (zai zat)))) (zag))) (zas (za9 (zjq (zcn rfl z_len (zad (zab 3) (zah))) (zcn rfl z_len (zad (zab 2) (zah))))))
theorem ycr:FnScope ["_law_machine_here","_law_other_here","_law_row","_law_k","_law_less","_law_way","_law_fails","_law_found"] ["_law_machine_here","_law_other_here","_law_row"] (zau (top bd 24)):=⟨rfl,rfl,rfl,by decide +kernel,rfl,by decide +kernel,by decide +kernel⟩
theorem h_m_law_row_right {f:Addr}{fd:FuncData}(F:Fun K "_law_row_right" "_law_row_right" (top bd 24) f fd) (hm:mg "_law_row_right" = some (.ref f)) (z_len:mg "len" = none) (z_zip:mg "zip" = none) (z_range:mg "range" = none) (h_m_stands:Has P w K mg base "stands" 4 2 zd6) (h_m_law_opened:Has P w K mg base "_law_opened" 2 3 zhs) (h_m_law_fails_at:Has P w K mg base "_law_fails_at" 2 3 zep) (h_m_lets:Has P w K mg base "lets" 2 3 zht):Has P w K mg base "_law_row_right" 5 3 zhu:=by
 have sc:=ycr
 refine zb8 (k:=4) F hm sc rfl (F.binds (by intro _ _ _ _ _ _ us hl;revert us;exact bl3 fun _ _ _=>rfl)) fun cdv hcd A outer s H E hr=>?_
 exact zam (zbp (zdg (zha (zzu hr (zab 2) (za1 (zah))) (zha (zle (zf0 (zav h_m_lets hr (by decide) rfl (zad (zab 0) (zad (zag) (zad (zab 2) (zah)))) (zai (zai (zai zat)))))) (zjl (zql (zc4) (zav h_m_law_fails_at hr (by decide) rfl (zad (zab 0) (zad (zab 1) (zad (zab 2) (zah)))) (zai (zai (zai zat))))))))) (zas (za9 (zc4))) (zbt)) (zam (zy1 PassesOwn.never rfl rfl z_range (zad (zag) (zad (zcn rfl z_len (zad (zab 2) (zah))) (zah))) (za5 3 sc.nd) (zas (zbp (zl6 (zc4) (zav h_m_law_fails_at hr (by decide) rfl (zad (zab 0) (zad (zab 1) (zad (zdb (zab 2) (zc6) (zc7 (zab 3))) (zah)))) (zai (zai (zai zat))))) (zas (za9 (zc4))) (zbt)))) (zam (zaq 4 sc.nd (zab 0)) (zam (zqq PassesOwn.never rfl (zq3 rfl z_zip (zad (za1 (zad (zc4) (zad (zc4) (zah)))) (zad (zav h_m_law_fails_at hr (by decide) rfl (zad (zab 0) (zad (zab 1) (zad (zab 2) (zah)))) (zai (zai (zai zat)))) (zah)))) (zdj rfl (zbu (za5 5 sc.nd) (zbu (za5 6 sc.nd) (zdi)))) (zas (zbp (zf0 (zab 6)) (zas (zaq 4 sc.nd (zav h_m_law_opened hr (by decide) rfl (zad (zab 4) (zad (zab 2) (zad (zab 5) (zah)))) (zai (zai (zai zat)))))) (zbt)))) (zam (zaq 7 sc.nd (zav h_m_stands hr (by decide) rfl (zad (zab 4) (zad (zab 1) (zah))) (zai (zai zat)))) (zas (za9 (zpl (zjq (zao (zab 7) (zag)) (zfz)) (zhb (zjm (zzt hr (zao (zab 7) (zag)) (zab 2)) (zhb (yb2 hr (za1 (zad (zcn rfl z_len (zad (zao (zab 7) (zag)) (zah))) (zad (zao (zab 7) (zag)) (zah)))) (za1 (zad (zcn rfl z_len (zad (zab 2) (zah))) (zad (zab 2) (zah)))))))))))))))
theorem ycs:FnScope ["_law_machine_here","_law_other_here","_law_found"] ["_law_machine_here","_law_other_here"] (zau (top bd 25)):=⟨rfl,rfl,rfl,by decide +kernel,rfl,by decide +kernel,by decide +kernel⟩
theorem h_m_law_told {f:Addr}{fd:FuncData}(F:Fun K "_law_told" "_law_told" (top bd 25) f fd) (hm:mg "_law_told" = some (.ref f)) (h_m_law_row_right:Has P w K mg base "_law_row_right" 5 3 zhu) (h_m_stands:Has P w K mg base "stands" 4 2 zd6):Has P w K mg base "_law_told" 6 2 zeq:=by
 have sc:=ycs
 refine zb8 (k:=5) F hm sc rfl (F.binds (by intro _ _ _ _ _ _ us hl;revert us;exact bl2 fun _ _=>rfl)) fun cdv hcd A outer s H E hr=>?_
 exact zam (zaq 2 sc.nd (zav h_m_stands hr (by decide) rfl (zad (zab 0) (zad (zab 1) (zah))) (zai (zai zat)))) (zam (zbp (zjr (zao (zab 2) (zag)) (zfz)) (zas (za9 (zc4))) (zbt)) (zam (zbp (zdg (zha (zjs (zao (zab 2) (zag)) (zfz)) (zjl (zle (zf0 (zav h_m_law_row_right hr (by decide) rfl (zad (zab 0) (zad (zab 1) (zad (zao (zab 2) (zag)) (zah)))) (zai (zai (zai zat))))))))) (zas (za9 (zbj))) (zbt)) (zas (za9 (zc4)))))
theorem yct:FnScope ["_law_pen_here","_law_many","_law_digit","_law_at","_law_cell_here","_law_prime","_law_number"] ["_law_pen_here","_law_many"] (zau (top bd 15)):=⟨rfl,rfl,rfl,by decide +kernel,rfl,by decide +kernel,by decide +kernel⟩
theorem h_m_law_take {f:Addr}{fd:FuncData}(F:Fun K "_law_take" "_law_take" (top bd 15) f fd) (hm:mg "_law_take" = some (.ref f)) (z_len:mg "len" = none) (z_abs:mg "abs" = none):Has P w K mg base "_law_take" 1 2 za2:=by
 have sc:=yct
 refine zb8 (k:=0) F hm sc rfl (F.binds (by intro _ _ _ _ _ _ us hl;revert us;exact bl2 fun _ _=>rfl)) fun cdv hcd A outer s H E hr=>?_
 exact zam (zbp (zjp (zao (zab 0) (zag)) (zag)) (zam (zaq 2 sc.nd (zdh (zao (zab 0) (zag)) (zab 1))) (zam (zds (zlk (zao (zab 0) (zag)) (zab 1)) (zju (zab 0) (zag))) (zas (za9 (zab 2))))) (zbt)) (zam (zaq 3 sc.nd (zao (zab 0) (zag))) (zam (zds (zbb (zab 3) (zag)) (zju (zab 0) (zag))) (zam (zaq 4 sc.nd (zbb (zf6 (zag) (zab 3)) (zag))) (zam (zbp (zjp (zcn rfl z_len (zad (zao (zab 0) (zag)) (zah))) (zag)) (zas (zaq 4 sc.nd (zao (zao (zab 0) (zag)) (zdh (zab 3) (zcn rfl z_len (zad (zao (zab 0) (zag)) (zah))))))) (zbt)) (zam (zbp (zdg (zeb (zjo (zab 3) (zcn rfl z_len (zad (zao (zab 0) (zag)) (zah)))) (zf1 (zll (zl0 rfl z_abs (zad (zab 4) (zah))) (zpo (zag) (zag)))))) (zam (zds (zlk (zl0 rfl z_abs (zad (zab 4) (zah))) (zab 1)) (zju (zab 0) (zag))) (zas (za9 (zdh (zl0 rfl z_abs (zad (zab 4) (zah))) (zab 1))))) (zbt)) (zam (zaq 5 sc.nd (zao (za1 (zad (zag) (zad (zag) (zad (zag) (zad (zag) (zad (zag) (zah))))))) (zdh (zab 3) (zag)))) (zam (zaq 6 sc.nd (zdh (zf6 (zbb (zdh (zab 4) (zag)) (zag)) (zbb (zf6 (zab 3) (zab 3)) (zag))) (zab 5))) (zam (zaq 6 sc.nd (zdh (zbb (zbb (zpo (zab 6) (zag)) (zf6 (zag) (zab 3))) (zag)) (zag))) (zas (za9 (zdh (zlk (zdh (zf6 (zab 6) (zbb (zbb (zdh (zab 6) (zag)) (zab 3)) (zag))) (zag)) (zag)) (zab 1))))))))))))
theorem ycu:FnScope ["_law_pen_here","_law_machine_here","_law_way","_law_many","_law_room","_law_ask","_law_goes","_law_answer","_law_to","_law_cell_here","_law_cells"] ["_law_pen_here","_law_machine_here"] (zau (top bd 21)):=⟨rfl,rfl,rfl,by decide +kernel,rfl,by decide +kernel,by decide +kernel⟩
theorem h_m_law_spoiled {f:Addr}{fd:FuncData}(F:Fun K "_law_spoiled" "_law_spoiled" (top bd 21) f fd) (hm:mg "_law_spoiled" = some (.ref f)) (z_len:mg "len" = none) (h_m_law_take:Has P w K mg base "_law_take" 1 2 za2):Has P w K mg base "_law_spoiled" 2 2 zgz:=by
 have sc:=ycu
 refine zb8 (k:=1) F hm sc rfl (F.binds (by intro _ _ _ _ _ _ us hl;revert us;exact bl2 fun _ _=>rfl)) fun cdv hcd A outer s H E hr=>?_
 exact zam (zaq 2 sc.nd (zav h_m_law_take hr (by decide) rfl (zad (zab 0) (zad (zag) (zah))) (zai (zai zat)))) (zam (zaq 3 sc.nd (zcn rfl z_len (zad (zao (zab 1) (zag)) (zah)))) (zam (zaq 4 sc.nd (zav h_m_law_take hr (by decide) rfl (zad (zab 0) (zad (zab 3) (zah))) (zai (zai zat)))) (zam (zaq 5 sc.nd (zav h_m_law_take hr (by decide) rfl (zad (zab 0) (zad (zao (zab 1) (zag)) (zah))) (zai (zai zat)))) (zam (zds (zao (zao (zao (zab 1) (zag)) (zab 4)) (zab 5)) (zdj rfl (zbu (za5 6 sc.nd) (zbu (za5 7 sc.nd) (zdi))))) (zam (zaq 8 sc.nd (zav h_m_law_take hr (by decide) rfl (zad (zab 0) (zad (zab 3) (zah))) (zai (zai zat)))) (zam (zaq 9 sc.nd (zao (zdp (zad (za1 (zad (zab 6) (zad (zbj) (zah)))) (zad (za1 (zad (zbj) (zad (zab 7) (zah)))) (zad (za1 (zad (zab 6) (zad (zav h_m_law_take hr (by decide) rfl (zad (zab 0) (zad (zag) (zah))) (zai (zai zat))) (zah)))) (zad (za1 (zad (zab 8) (zad (zab 7) (zah)))) (zah)))))) (zab 2))) (zam (zaq 10 sc.nd (zbb (zbb (zdb (zao (zao (zab 1) (zag)) (zab 4)) (zc6) (zc7 (zab 5))) (za1 (zad (zab 9) (zah)))) (zdb (zao (zao (zab 1) (zag)) (zab 4)) (zc7 (zbb (zab 5) (zag))) (zc6)))) (zas (za9 (za1 (zad (zao (zab 1) (zag)) (zad (zbb (zbb (zdb (zao (zab 1) (zag)) (zc6) (zc7 (zab 4))) (za1 (zad (zab 10) (zah)))) (zdb (zao (zab 1) (zag)) (zc7 (zbb (zab 4) (zag))) (zc6))) (zah)))))))))))))
theorem ycv:FnScope ["_law_pen_here","_law_many","_law_left"] ["_law_pen_here","_law_many"] (zau (top bd 18)):=⟨rfl,rfl,rfl,by decide +kernel,rfl,by decide +kernel,by decide +kernel⟩
theorem h_m_law_order {f:Addr}{fd:FuncData}(F:Fun K "_law_order" "_law_order" (top bd 18) f fd) (hm:mg "_law_order" = some (.ref f)) (z_range:mg "range" = none) (z_len:mg "len" = none) (z_list:mg "list" = none) (h_m_law_take:Has P w K mg base "_law_take" 1 2 za2):Has P w K mg base "_law_order" 2 2 zg0:=by
 have sc:=ycv
 refine zb8 (k:=1) F hm sc rfl (F.binds (by intro _ _ _ _ _ _ us hl;revert us;exact bl2 fun _ _=>rfl)) fun cdv hcd A outer s H E hr=>?_
 exact zam (zaq 2 sc.nd (zz3 rfl rfl z_list rfl z_range (zad (zab 1) (zah)))) (zas (za9 (zly (N':=["_law_k","_law_left","_law_pen_here"]) (ixs:=[none,some 2,some 0]) rfl (zhf (scO:=zau (top bd 18)) (NO:=["_law_pen_here","_law_many","_law_left"]) rfl rfl (by decide +kernel)) (zqa rfl z_range (zad (zab 1) (zah))) (fun _ _ _ _ _=>za5 0 (show List.Nodup (["_law_k","_law_left","_law_pen_here"]:List Str) by decide +kernel)) (fun _ _ _ _ _=>zhd) (fun _ _ _ _ _=>zzy (zab 1) (zav h_m_law_take hr (by decide) rfl (zad (zab 2) (zad (zcn rfl z_len (zad (zab 1) (zah))) (zah))) (zai (zai zat)))))))
theorem ycw:FnScope ["_law_pen_here","_law_machine_here","_law_order_here","_law_rooms","_law_room","_law_cells","_law_there"] ["_law_pen_here","_law_machine_here"] (zau (top bd 20)):=⟨rfl,rfl,rfl,by decide +kernel,rfl,by decide +kernel,by decide +kernel⟩
theorem h_m_law_named {f:Addr}{fd:FuncData}(F:Fun K "_law_named" "_law_named" (top bd 20) f fd) (hm:mg "_law_named" = some (.ref f)) (z_tuple:mg "tuple" = none) (z_zip:mg "zip" = none) (z_enumerate:mg "enumerate" = none) (z_len:mg "len" = none) (h_m_law_order:Has P w K mg base "_law_order" 2 2 zg0):Has P w K mg base "_law_named" 3 2 zhv:=by
 have sc:=ycw
 refine zb8 (k:=2) F hm sc rfl (F.binds (by intro _ _ _ _ _ _ us hl;revert us;exact bl2 fun _ _=>rfl)) fun cdv hcd A outer s H E hr=>?_
 exact zam (zaq 2 sc.nd (zbb (zdp (zad (zag) (zah))) (zly (N':=["_law_k"]) (ixs:=[none]) rfl (zhf (scO:=zau (top bd 20)) (NO:=["_law_pen_here","_law_machine_here","_law_order_here","_law_rooms","_law_room","_law_cells","_law_there"]) rfl rfl (by decide +kernel)) (zlx (zav h_m_law_order hr (by decide) rfl (zad (zab 0) (zad (zyh (zcn rfl z_len (zad (zao (zab 1) (zag)) (zah))) (zag)) (zah))) (zai (zai zat)))) (fun _ _ _ _ _=>za5 0 (show List.Nodup (["_law_k"]:List Str) by decide +kernel)) (fun _ _ _ _ _=>zhd) (fun _ _ _ _ _=>zbb (zag) (zab 0))))) (zam (zqd 3 sc.nd (N':=["_law_room"]) (ixs:=[none]) rfl (zhf (scO:=zau (top bd 20)) (NO:=["_law_pen_here","_law_machine_here","_law_order_here","_law_rooms","_law_room","_law_cells","_law_there"]) rfl rfl (by decide +kernel)) (zlx (zab 2)) (fun _ _ _ _ _=>za5 0 (show List.Nodup (["_law_room"]:List Str) by decide +kernel)) (fun _ _ _ _ _=>zhd) (fun _ _ _ _ _=>za1 (zah))) (zam (zqq PassesOwn.never rfl (yal rfl z_enumerate (zad (zao (zab 1) (zag)) (zah))) (zdj rfl (zbu (za5 4 sc.nd) (zbu (za5 5 sc.nd) (zdi)))) (zam (zqd 6 sc.nd (N':=["_law_goes","_law_answer","_law_order_here"]) (ixs:=[none,none,some 2]) rfl (zhf (scO:=zau (top bd 20)) (NO:=["_law_pen_here","_law_machine_here","_law_order_here","_law_rooms","_law_room","_law_cells","_law_there"]) rfl rfl (by decide +kernel)) (zlx (zab 5)) (fun _ _ _ _ _=>zdj rfl (zbu (za5 0 (show List.Nodup (["_law_goes","_law_answer","_law_order_here"]:List Str) by decide +kernel)) (zbu (za5 1 (show List.Nodup (["_law_goes","_law_answer","_law_order_here"]:List Str) by decide +kernel)) (zdi)))) (fun _ _ _ _ _=>zhd) (fun _ _ _ _ _=>zyg (zgk (zab 0) (zbj)) (zbj) (zao (zab 2) (zab 0)))) (zas (zds (zhe rfl z_tuple (zad (yan (N':=["_law_goes","_law_cell_here"]) (ixs:=[none,none]) rfl (zhf (scO:=zau (top bd 20)) (NO:=["_law_pen_here","_law_machine_here","_law_order_here","_law_rooms","_law_room","_law_cells","_law_there"]) rfl rfl (by decide +kernel)) (zq3 rfl z_zip (zad (zab 6) (zad (zab 5) (zah)))) (fun _ _ _ _ _=>zdj rfl (zbu (za5 0 (show List.Nodup (["_law_goes","_law_cell_here"]:List Str) by decide +kernel)) (zbu (za5 1 (show List.Nodup (["_law_goes","_law_cell_here"]:List Str) by decide +kernel)) (zdi)))) (fun _ _ _ _ _=>zhd) (fun _ _ _ _ _=>za1 (zad (zab 0) (zad (zao (zab 1) (zag)) (zah))))) (zah))) (zju (zab 3) (zao (zab 2) (zab 4))))))) (zas (za9 (za1 (zad (zao (zab 1) (zag)) (zad (zhe rfl z_tuple (zad (zab 3) (zah))) (zah))))))))
theorem ycx:FnScope ["_law_pen_here","_law_machine_here","_law_copies","_law_fill","_law_many","_law_rooms","_law_k","_law_cells","_law_goes","_law_answer"] ["_law_pen_here","_law_machine_here"] (zau (top bd 19)):=⟨rfl,rfl,rfl,by decide +kernel,rfl,by decide +kernel,by decide +kernel⟩
theorem h_m_law_other {f:Addr}{fd:FuncData}(F:Fun K "_law_other" "_law_other" (top bd 19) f fd) (hm:mg "_law_other" = some (.ref f)) (z_tuple:mg "tuple" = none) (z_range:mg "range" = none) (z_len:mg "len" = none) (z_int:mg "int" = none) (h_m_law_named:Has P w K mg base "_law_named" 3 2 zhv) (h_m_law_take:Has P w K mg base "_law_take" 1 2 za2):Has P w K mg base "_law_other" 4 2 zga:=by
 have sc:=ycx
 refine zb8 (k:=3) F hm sc rfl (F.binds (by intro _ _ _ _ _ _ us hl;revert us;exact bl2 fun _ _=>rfl)) fun cdv hcd A outer s H E hr=>?_
 exact zam (zaq 2 sc.nd (zbb (zag) (zqs rfl z_int (zad (zjm (zjq (zav h_m_law_take hr (by decide) rfl (zad (zab 0) (zad (zag) (zah))) (zai (zai zat))) (zag)) (zhb (zpp (zcn rfl z_len (zad (zao (zab 1) (zag)) (zah))) (zag)))) (zah))))) (zam (zaq 3 sc.nd (zao (za1 (zad (zag) (zad (zag) (zad (zag) (zad (zag) (zah)))))) (zav h_m_law_take hr (by decide) rfl (zad (zab 0) (zad (zag) (zah))) (zai (zai zat))))) (zam (zaq 4 sc.nd (zcn rfl z_len (zad (zao (zab 1) (zag)) (zah)))) (zam (zaq 5 sc.nd (zdp (zah))) (zam (zjv PassesOwn.never rfl rfl z_range (zad (zf6 (zab 4) (zab 2)) (zah)) (za5 6 sc.nd) (zam (zaq 7 sc.nd (zdp (zah))) (zam (zlu PassesOwn.never rfl (zao (zao (zab 1) (zag)) (zdh (zab 6) (zab 4))) (zdj rfl (zbu (za5 8 sc.nd) (zbu (za5 9 sc.nd) (zdi)))) (zam (zbp (zln (zab 8) (zbj)) (zas (zaq 8 sc.nd (zbb (zab 8) (zf6 (zab 4) (zav h_m_law_take hr (by decide) rfl (zad (zab 0) (zad (zab 2) (zah))) (zai (zai zat))))))) (zas (zbp (zjo (zav h_m_law_take hr (by decide) rfl (zad (zab 0) (zad (zag) (zah))) (zai (zai zat))) (zab 3)) (zas (zaq 8 sc.nd (zav h_m_law_take hr (by decide) rfl (zad (zab 0) (zad (zf6 (zab 4) (zab 2)) (zah))) (zai (zai zat))))) (zbt)))) (zam (zbp (zdg (zeb (zgk (zab 9) (zbj)) (zf1 (zjo (zav h_m_law_take hr (by decide) rfl (zad (zab 0) (zad (zag) (zah))) (zai (zai zat))) (zab 3))))) (zas (zaq 9 sc.nd (zav h_m_law_take hr (by decide) rfl (zad (zab 0) (zad (zag) (zah))) (zai (zai zat))))) (zbt)) (zas (zez (zgm (zab 7) (za1 (zad (zab 8) (zad (zab 9) (zah)))))))))) (zas (zez (zgm (zab 5) (zhe rfl z_tuple (zad (zab 7) (zah))))))))) (zas (za9 (zav h_m_law_named hr (by decide) rfl (zad (zab 0) (zad (za1 (zad (zao (zab 1) (zag)) (zad (zhe rfl z_tuple (zad (zab 5) (zah))) (zah)))) (zah))) (zai (zai zat)))))))))
theorem ycy:FnScope ["_law_pen_here","_law_share","_law_wide","_law_shift","_law_many","_law_goes","_law_answer"] ["_law_pen_here","_law_share","_law_wide","_law_shift","_law_many"] (zau (top bd 17)):=⟨rfl,rfl,rfl,by decide +kernel,rfl,by decide +kernel,by decide +kernel⟩
theorem h_m_law_cell {f:Addr}{fd:FuncData}(F:Fun K "_law_cell" "_law_cell" (top bd 17) f fd) (hm:mg "_law_cell" = some (.ref f)) (h_m_law_take:Has P w K mg base "_law_take" 1 2 za2):Has P w K mg base "_law_cell" 2 5 zhw:=by
 have sc:=ycy
 refine zb8 (k:=1) F hm sc rfl (F.binds (by intro _ _ _ _ _ _ us hl;revert us;exact bl5 fun _ _ _ _ _=>rfl)) fun cdv hcd A outer s H E hr=>?_
 exact zam (zaq 5 sc.nd (zbj)) (zam (zaq 6 sc.nd (zbj)) (zam (zbp (zll (zav h_m_law_take hr (by decide) rfl (zad (zab 0) (zad (zag) (zah))) (zai (zai zat))) (zab 1)) (zas (zaq 5 sc.nd (zav h_m_law_take hr (by decide) rfl (zad (zab 0) (zad (zab 4) (zah))) (zai (zai zat))))) (zbt)) (zam (zbp (zll (zav h_m_law_take hr (by decide) rfl (zad (zab 0) (zad (zag) (zah))) (zai (zai zat))) (zab 1)) (zas (zaq 6 sc.nd (zdh (zbb (zav h_m_law_take hr (by decide) rfl (zad (zab 0) (zad (zab 2) (zah))) (zai (zai zat))) (zab 3)) (zag)))) (zbt)) (zas (za9 (za1 (zad (zab 5) (zad (zab 6) (zah)))))))))
theorem ycz:FnScope ["_law_pen_here","_law_asks","_law_many","_law_share","_law_wide","_law_alike","_law_shift","_law_rooms","_law_room","_law_cells","_law_at"] ["_law_pen_here","_law_asks","_law_many"] (zau (top bd 16)):=⟨rfl,rfl,rfl,by decide +kernel,rfl,by decide +kernel,by decide +kernel⟩
theorem h_m_law_machine {f:Addr}{fd:FuncData}(F:Fun K "_law_machine" "_law_machine" (top bd 16) f fd) (hm:mg "_law_machine" = some (.ref f)) (z_tuple:mg "tuple" = none) (z_range:mg "range" = none) (h_m_law_take:Has P w K mg base "_law_take" 1 2 za2) (h_m_law_cell:Has P w K mg base "_law_cell" 2 5 zhw):Has P w K mg base "_law_machine" 3 3 zhx:=by
 have sc:=ycz
 refine zb8 (k:=2) F hm sc rfl (F.binds (by intro _ _ _ _ _ _ us hl;revert us;exact bl3 fun _ _ _=>rfl)) fun cdv hcd A outer s H E hr=>?_
 exact zam (zaq 3 sc.nd (zao (za1 (zad (zag) (zad (zag) (zad (zag) (zad (zag) (zah)))))) (zav h_m_law_take hr (by decide) rfl (zad (zab 0) (zad (zag) (zah))) (zai (zai zat))))) (zam (zaq 4 sc.nd (zao (za1 (zad (zag) (zad (zag) (zad (zag) (zad (zag) (zah)))))) (zav h_m_law_take hr (by decide) rfl (zad (zab 0) (zad (zag) (zah))) (zai (zai zat))))) (zam (zaq 5 sc.nd (zjq (zav h_m_law_take hr (by decide) rfl (zad (zab 0) (zad (zag) (zah))) (zai (zai zat))) (zag))) (zam (zaq 6 sc.nd (zav h_m_law_take hr (by decide) rfl (zad (zab 0) (zad (zag) (zah))) (zai (zai zat)))) (zam (zaq 7 sc.nd (zdp (zah))) (zam (zjv PassesOwn.never rfl rfl z_range (zad (zab 2) (zah)) (za5 8 sc.nd) (zas (zbp (zdg (zeb (zf0 (zab 5)) (zeb (zjp (zab 8) (zag)) (zf1 (zjr (zav h_m_law_take hr (by decide) rfl (zad (zab 0) (zad (zag) (zah))) (zai (zai zat))) (zag)))))) (zam (zaq 9 sc.nd (zao (zab 7) (zav h_m_law_take hr (by decide) rfl (zad (zab 0) (zad (zab 8) (zah))) (zai (zai zat))))) (zam (zaq 10 sc.nd (zav h_m_law_take hr (by decide) rfl (zad (zab 0) (zad (zab 1) (zah))) (zai (zai zat)))) (zas (zez (zgm (zab 7) (zbb (zbb (zdb (zab 9) (zc6) (zc7 (zab 10))) (za1 (zad (za1 (zad (zao (zao (zab 9) (zab 10)) (zag)) (zad (zbj) (zah)))) (zah)))) (zdb (zab 9) (zc7 (zbb (zab 10) (zag))) (zc6)))))))) (zas (zez (zgm (zab 7) (zhe rfl z_tuple (zad (zly (N':=["_law_ask","_law_pen_here","_law_share","_law_wide","_law_shift","_law_many"]) (ixs:=[none,some 0,some 3,some 4,some 6,some 2]) rfl (zhf (scO:=zau (top bd 16)) (NO:=["_law_pen_here","_law_asks","_law_many","_law_share","_law_wide","_law_alike","_law_shift","_law_rooms","_law_room","_law_cells","_law_at"]) rfl rfl (by decide +kernel)) (zqa rfl z_range (zad (zab 1) (zah))) (fun _ _ _ _ _=>za5 0 (show List.Nodup (["_law_ask","_law_pen_here","_law_share","_law_wide","_law_shift","_law_many"]:List Str) by decide +kernel)) (fun _ _ _ _ _=>zhd) (fun _ _ _ _ _=>zav h_m_law_cell hr (by decide) rfl (zad (zab 1) (zad (zab 2) (zad (zab 3) (zad (zab 4) (zad (zab 5) (zah)))))) (zai (zai (zai (zai (zai zat))))))) (zah))))))))) (zas (za9 (za1 (zad (zab 1) (zad (zhe rfl z_tuple (zad (zab 7) (zah))) (zah)))))))))))
theorem yc0:FnScope ["_law_script"] ["_law_script"] (zau (top bd 14)):=⟨rfl,rfl,rfl,by decide +kernel,rfl,by decide +kernel,by decide +kernel⟩
theorem h_m_law_pen {f:Addr}{fd:FuncData}(F:Fun K "_law_pen" "_law_pen" (top bd 14) f fd) (hm:mg "_law_pen" = some (.ref f)):Has P w K mg base "_law_pen" 1 1 zix:=by
 have sc:=yc0
 refine zb8 (k:=0) F hm sc rfl (F.binds (by intro _ _ _ _ _ _ us hl;revert us;exact bl1 fun _=>rfl)) fun cdv hcd A outer s H E hr=>?_
 exact zas (za9 (zdp (zad (zdb (zab 0) (zc6) (zc7 (zag))) (zad (zag) (zad (zag) (zah))))))
theorem yc1:FnScope ["_law_script","_law_pen_here","_law_turn","_law_way","_law_first","_law_second","_law_third","_law_told_here","_law_one"] ["_law_script"] (zau (top bd 26)):=⟨rfl,rfl,rfl,by decide +kernel,rfl,by decide +kernel,by decide +kernel⟩
theorem yc2 {f:Addr}{fd:FuncData}(F:Fun K "law" "law" (top bd 26) f fd) (z_range:mg "range" = none) (h_m_stands:Has P w K mg base "stands" 4 2 zd6) (h_m_law_told:Has P w K mg base "_law_told" 6 2 zeq) (h_m_law_spoiled:Has P w K mg base "_law_spoiled" 2 2 zgz) (h_m_law_other:Has P w K mg base "_law_other" 4 2 zga) (h_m_law_machine:Has P w K mg base "_law_machine" 3 3 zhx) (h_m_law_take:Has P w K mg base "_law_take" 1 2 za2) (h_m_law_pen:Has P w K mg base "_law_pen" 1 1 zix):FnOk P w K mg base CX0 7 f fd ["_law_script"] (sp3 K 1 zgb):=by
 have sc:=yc1
 refine zp0 (k:=6) F sc rfl fun cdv hcd A outer s H E hr=>?_
 exact zam (zaq 1 sc.nd (zav h_m_law_pen hr (by decide) rfl (zad (zab 0) (zah)) (zai zat))) (zam (zjv PassesOwn.never rfl rfl z_range (zad (zag) (zah)) (za5 2 sc.nd) (zam (zaq 3 sc.nd (zav h_m_law_take hr (by decide) rfl (zad (zab 1) (zad (zag) (zah))) (zai (zai zat)))) (zam (zaq 4 sc.nd (zav h_m_law_machine hr (by decide) rfl (zad (zab 1) (zad (zbb (zag) (zav h_m_law_take hr (by decide) rfl (zad (zab 1) (zad (zag) (zah))) (zai (zai zat)))) (zad (zbb (zag) (zav h_m_law_take hr (by decide) rfl (zad (zab 1) (zad (zag) (zah))) (zai (zai zat)))) (zah)))) (zai (zai (zai zat))))) (zam (zaq 5 sc.nd (zav h_m_law_other hr (by decide) rfl (zad (zab 1) (zad (zab 4) (zah))) (zai (zai zat)))) (zam (zbp (zjr (zab 3) (zag)) (zas (zaq 5 sc.nd (zav h_m_law_spoiled hr (by decide) rfl (zad (zab 1) (zad (zab 5) (zah))) (zai (zai zat))))) (zbt)) (zam (zaq 6 sc.nd (zav h_m_law_other hr (by decide) rfl (zad (zab 1) (zad (zab 5) (zah))) (zai (zai zat)))) (zam (zbp (zjr (zab 3) (zag)) (zas (zaq 6 sc.nd (zav h_m_law_spoiled hr (by decide) rfl (zad (zab 1) (zad (zab 6) (zah))) (zai (zai zat))))) (zbt)) (zam (zaq 7 sc.nd (zdp (zad (zav h_m_law_told hr (by decide) rfl (zad (zab 4) (zad (zab 5) (zah))) (zai (zai zat))) (zad (zav h_m_law_told hr (by decide) rfl (zad (zab 5) (zad (zab 6) (zah))) (zai (zai zat))) (zad (zav h_m_law_told hr (by decide) rfl (zad (zab 4) (zad (zab 6) (zah))) (zai (zai zat))) (zah)))))) (zam (zbp (zdg (zha (zl6 (zbj) (zab 7)) (zha (zdg (zeb (zf0 (zao (zab 7) (zag))) (zeb (zf0 (zao (zab 7) (zag))) (zf1 (zle (zf0 (zao (zab 7) (zag)))))))) (zjl (zdg (zeb (zjp (zab 3) (zag)) (zf1 (zl6 (zc4) (zab 7))))))))) (zas (za9 (zc4))) (zbt)) (zam (zbp (zdg (zha (zgk (zav h_m_law_told hr (by decide) rfl (zad (zab 5) (zad (zab 4) (zah))) (zai (zai zat))) (zbj)) (zjl (zgk (zav h_m_law_told hr (by decide) rfl (zad (zab 6) (zad (zab 4) (zah))) (zai (zai zat))) (zbj))))) (zas (za9 (zc4))) (zbt)) (zas (zlu PassesOwn.never rfl (za1 (zad (zab 4) (zad (zab 5) (zad (zab 6) (zah))))) (za5 8 sc.nd) (zas (zbp (zjs (zao (zav h_m_stands hr (by decide) rfl (zad (zab 8) (zad (zab 8) (zah))) (zai (zai zat))) (zag)) (zfz)) (zas (za9 (zc4))) (zbt))))))))))))))) (zas (za9 (zc4))))
end
theorem all_mk {l:PySem.W.OpenLaw}{w:World}{K:QFg}{h:Heap}{mg:Str->Option Value}{fa:Addr}(X:K.In h) (G:h.Ns mainGlobals mg) (hfa:mg "law" = some (.ref fa)) {f0 f1 f2 f3 f4 f5 f6 f7 f8 f9 f10 f11 f12 f13 f14 f15 f16 f17 f18 f19:Addr}
  {od0 an0:Option Addr} {sl0:Array (Option Value)} {oc0 kV0 dc0 pm0 cd0 ct0:Value}
  {od1 an1:Option Addr} {sl1:Array (Option Value)} {oc1 kV1 dc1 pm1 cd1 ct1:Value}
  {od2 an2:Option Addr} {sl2:Array (Option Value)} {oc2 kV2 dc2 pm2 cd2 ct2:Value}
  {od3 an3:Option Addr} {sl3:Array (Option Value)} {oc3 kV3 dc3 pm3 cd3 ct3:Value}
  {od4 an4:Option Addr} {sl4:Array (Option Value)} {oc4 kV4 dc4 pm4 cd4 ct4:Value}
  {od5 an5:Option Addr} {sl5:Array (Option Value)} {oc5 kV5 dc5 pm5 cd5 ct5:Value}
  {od6 an6:Option Addr} {sl6:Array (Option Value)} {oc6 kV6 dc6 pm6 cd6 ct6:Value}
  {od7 an7:Option Addr} {sl7:Array (Option Value)} {oc7 kV7 dc7 pm7 cd7 ct7:Value}
  {od8 an8:Option Addr} {sl8:Array (Option Value)} {oc8 kV8 dc8 pm8 cd8 ct8:Value}
  {od9 an9:Option Addr} {sl9:Array (Option Value)} {oc9 kV9 dc9 pm9 cd9 ct9:Value}
  {od10 an10:Option Addr} {sl10:Array (Option Value)} {oc10 kV10 dc10 pm10 cd10 ct10:Value}
  {od11 an11:Option Addr} {sl11:Array (Option Value)} {oc11 kV11 dc11 pm11 cd11 ct11:Value}
  {od12 an12:Option Addr} {sl12:Array (Option Value)} {oc12 kV12 dc12 pm12 cd12 ct12:Value}
  {od13 an13:Option Addr} {sl13:Array (Option Value)} {oc13 kV13 dc13 pm13 cd13 ct13:Value}
  {od14 an14:Option Addr} {sl14:Array (Option Value)} {oc14 kV14 dc14 pm14 cd14 ct14:Value}
  {od15 an15:Option Addr} {sl15:Array (Option Value)} {oc15 kV15 dc15 pm15 cd15 ct15:Value}
  {od16 an16:Option Addr} {sl16:Array (Option Value)} {oc16 kV16 dc16 pm16 cd16 ct16:Value}
  {od17 an17:Option Addr} {sl17:Array (Option Value)} {oc17 kV17 dc17 pm17 cd17 ct17:Value}
  {od18 an18:Option Addr} {sl18:Array (Option Value)} {oc18 kV18 dc18 pm18 cd18 ct18:Value}
  {od19 an19:Option Addr} {sl19:Array (Option Value)} {oc19 kV19 dc19 pm19 cd19 ct19:Value}
  (a0:PySem.W.nsIn K mainGlobals "cell_fault" = some (some (.ref f0))) (l0:K.lookup f0=some ⟨oc0,od0,.func (PySem.W.fnOf "cell_fault" "cell_fault" (zbr (top bd 6)) (zbi (top bd 6)) (zau (top bd 6)) .none kV0 dc0 pm0 an0 cd0 ct0),sl0⟩) (c0:PySem.W.codeIn K cd0 "cell_fault" = true) (k0:PySem.W.keepIn K (.ref f0)=true)
  (a1:PySem.W.nsIn K mainGlobals "lacks" = some (some (.ref f1))) (l1:K.lookup f1=some ⟨oc1,od1,.func (PySem.W.fnOf "lacks" "lacks" (zbr (top bd 7)) (zbi (top bd 7)) (zau (top bd 7)) .none kV1 dc1 pm1 an1 cd1 ct1),sl1⟩) (c1:PySem.W.codeIn K cd1 "lacks" = true) (k1:PySem.W.keepIn K (.ref f1)=true)
  (a2:PySem.W.nsIn K mainGlobals "walk_both" = some (some (.ref f2))) (l2:K.lookup f2=some ⟨oc2,od2,.func (PySem.W.fnOf "walk_both" "walk_both" (zbr (top bd 4)) (zbi (top bd 4)) (zau (top bd 4)) .none kV2 dc2 pm2 an2 cd2 ct2),sl2⟩) (c2:PySem.W.codeIn K cd2 "walk_both" = true) (k2:PySem.W.keepIn K (.ref f2)=true)
  (a3:PySem.W.nsIn K mainGlobals "refuse_unlike" = some (some (.ref f3))) (l3:K.lookup f3=some ⟨oc3,od3,.func (PySem.W.fnOf "refuse_unlike" "refuse_unlike" (zbr (top bd 8)) (zbi (top bd 8)) (zau (top bd 8)) .none kV3 dc3 pm3 an3 cd3 ct3),sl3⟩) (c3:PySem.W.codeIn K cd3 "refuse_unlike" = true) (k3:PySem.W.keepIn K (.ref f3)=true)
  (a4:PySem.W.nsIn K mainGlobals "stands" = some (some (.ref f4))) (l4:K.lookup f4=some ⟨oc4,od4,.func (PySem.W.fnOf "stands" "stands" (zbr (top bd 9)) (zbi (top bd 9)) (zau (top bd 9)) .none kV4 dc4 pm4 an4 cd4 ct4),sl4⟩) (c4:PySem.W.codeIn K cd4 "stands" = true) (k4:PySem.W.keepIn K (.ref f4)=true)
  (a5:PySem.W.nsIn K mainGlobals "run" = some (some (.ref f5))) (l5:K.lookup f5=some ⟨oc5,od5,.func (PySem.W.fnOf "run" "run" (zbr (top bd 11)) (zbi (top bd 11)) (zau (top bd 11)) .none kV5 dc5 pm5 an5 cd5 ct5),sl5⟩) (c5:PySem.W.codeIn K cd5 "run" = true) (k5:PySem.W.keepIn K (.ref f5)=true)
  (a6:PySem.W.nsIn K mainGlobals "_law_opened" = some (some (.ref f6))) (l6:K.lookup f6=some ⟨oc6,od6,.func (PySem.W.fnOf "_law_opened" "_law_opened" (zbr (top bd 23)) (zbi (top bd 23)) (zau (top bd 23)) .none kV6 dc6 pm6 an6 cd6 ct6),sl6⟩) (c6:PySem.W.codeIn K cd6 "_law_opened" = true) (k6:PySem.W.keepIn K (.ref f6)=true)
  (a7:PySem.W.nsIn K mainGlobals "_law_fails_at" = some (some (.ref f7))) (l7:K.lookup f7=some ⟨oc7,od7,.func (PySem.W.fnOf "_law_fails_at" "_law_fails_at" (zbr (top bd 22)) (zbi (top bd 22)) (zau (top bd 22)) .none kV7 dc7 pm7 an7 cd7 ct7),sl7⟩) (c7:PySem.W.codeIn K cd7 "_law_fails_at" = true) (k7:PySem.W.keepIn K (.ref f7)=true)
  (a8:PySem.W.nsIn K mainGlobals "lets" = some (some (.ref f8))) (l8:K.lookup f8=some ⟨oc8,od8,.func (PySem.W.fnOf "lets" "lets" (zbr (top bd 12)) (zbi (top bd 12)) (zau (top bd 12)) .none kV8 dc8 pm8 an8 cd8 ct8),sl8⟩) (c8:PySem.W.codeIn K cd8 "lets" = true) (k8:PySem.W.keepIn K (.ref f8)=true)
  (a9:PySem.W.nsIn K mainGlobals "_law_row_right" = some (some (.ref f9))) (l9:K.lookup f9=some ⟨oc9,od9,.func (PySem.W.fnOf "_law_row_right" "_law_row_right" (zbr (top bd 24)) (zbi (top bd 24)) (zau (top bd 24)) .none kV9 dc9 pm9 an9 cd9 ct9),sl9⟩) (c9:PySem.W.codeIn K cd9 "_law_row_right" = true) (k9:PySem.W.keepIn K (.ref f9)=true)
  (a10:PySem.W.nsIn K mainGlobals "_law_told" = some (some (.ref f10))) (l10:K.lookup f10=some ⟨oc10,od10,.func (PySem.W.fnOf "_law_told" "_law_told" (zbr (top bd 25)) (zbi (top bd 25)) (zau (top bd 25)) .none kV10 dc10 pm10 an10 cd10 ct10),sl10⟩) (c10:PySem.W.codeIn K cd10 "_law_told" = true) (k10:PySem.W.keepIn K (.ref f10)=true)
  (a11:PySem.W.nsIn K mainGlobals "_law_take" = some (some (.ref f11))) (l11:K.lookup f11=some ⟨oc11,od11,.func (PySem.W.fnOf "_law_take" "_law_take" (zbr (top bd 15)) (zbi (top bd 15)) (zau (top bd 15)) .none kV11 dc11 pm11 an11 cd11 ct11),sl11⟩) (c11:PySem.W.codeIn K cd11 "_law_take" = true) (k11:PySem.W.keepIn K (.ref f11)=true)
  (a12:PySem.W.nsIn K mainGlobals "_law_spoiled" = some (some (.ref f12))) (l12:K.lookup f12=some ⟨oc12,od12,.func (PySem.W.fnOf "_law_spoiled" "_law_spoiled" (zbr (top bd 21)) (zbi (top bd 21)) (zau (top bd 21)) .none kV12 dc12 pm12 an12 cd12 ct12),sl12⟩) (c12:PySem.W.codeIn K cd12 "_law_spoiled" = true) (k12:PySem.W.keepIn K (.ref f12)=true)
  (a13:PySem.W.nsIn K mainGlobals "_law_order" = some (some (.ref f13))) (l13:K.lookup f13=some ⟨oc13,od13,.func (PySem.W.fnOf "_law_order" "_law_order" (zbr (top bd 18)) (zbi (top bd 18)) (zau (top bd 18)) .none kV13 dc13 pm13 an13 cd13 ct13),sl13⟩) (c13:PySem.W.codeIn K cd13 "_law_order" = true) (k13:PySem.W.keepIn K (.ref f13)=true)
  (a14:PySem.W.nsIn K mainGlobals "_law_named" = some (some (.ref f14))) (l14:K.lookup f14=some ⟨oc14,od14,.func (PySem.W.fnOf "_law_named" "_law_named" (zbr (top bd 20)) (zbi (top bd 20)) (zau (top bd 20)) .none kV14 dc14 pm14 an14 cd14 ct14),sl14⟩) (c14:PySem.W.codeIn K cd14 "_law_named" = true) (k14:PySem.W.keepIn K (.ref f14)=true)
  (a15:PySem.W.nsIn K mainGlobals "_law_other" = some (some (.ref f15))) (l15:K.lookup f15=some ⟨oc15,od15,.func (PySem.W.fnOf "_law_other" "_law_other" (zbr (top bd 19)) (zbi (top bd 19)) (zau (top bd 19)) .none kV15 dc15 pm15 an15 cd15 ct15),sl15⟩) (c15:PySem.W.codeIn K cd15 "_law_other" = true) (k15:PySem.W.keepIn K (.ref f15)=true)
  (a16:PySem.W.nsIn K mainGlobals "_law_cell" = some (some (.ref f16))) (l16:K.lookup f16=some ⟨oc16,od16,.func (PySem.W.fnOf "_law_cell" "_law_cell" (zbr (top bd 17)) (zbi (top bd 17)) (zau (top bd 17)) .none kV16 dc16 pm16 an16 cd16 ct16),sl16⟩) (c16:PySem.W.codeIn K cd16 "_law_cell" = true) (k16:PySem.W.keepIn K (.ref f16)=true)
  (a17:PySem.W.nsIn K mainGlobals "_law_machine" = some (some (.ref f17))) (l17:K.lookup f17=some ⟨oc17,od17,.func (PySem.W.fnOf "_law_machine" "_law_machine" (zbr (top bd 16)) (zbi (top bd 16)) (zau (top bd 16)) .none kV17 dc17 pm17 an17 cd17 ct17),sl17⟩) (c17:PySem.W.codeIn K cd17 "_law_machine" = true) (k17:PySem.W.keepIn K (.ref f17)=true)
  (a18:PySem.W.nsIn K mainGlobals "_law_pen" = some (some (.ref f18))) (l18:K.lookup f18=some ⟨oc18,od18,.func (PySem.W.fnOf "_law_pen" "_law_pen" (zbr (top bd 14)) (zbi (top bd 14)) (zau (top bd 14)) .none kV18 dc18 pm18 an18 cd18 ct18),sl18⟩) (c18:PySem.W.codeIn K cd18 "_law_pen" = true) (k18:PySem.W.keepIn K (.ref f18)=true)
  (a19:PySem.W.nsIn K mainGlobals "law" = some (some (.ref f19))) (l19:K.lookup f19=some ⟨oc19,od19,.func (PySem.W.fnOf "law" "law" (zbr (top bd 26)) (zbi (top bd 26)) (zau (top bd 26)) .none kV19 dc19 pm19 an19 cd19 ct19),sl19⟩) (c19:PySem.W.codeIn K cd19 "law" = true) (k19:PySem.W.keepIn K (.ref f19)=true)
  (z_len:PySem.W.nsIn K mainGlobals "len" = some none)
  (z_range:PySem.W.nsIn K mainGlobals "range" = some none)
  (z_sorted:PySem.W.nsIn K mainGlobals "sorted" = some none)
  (z_int:PySem.W.nsIn K mainGlobals "int" = some none)
  (z_zip:PySem.W.nsIn K mainGlobals "zip" = some none)
  (z_abs:PySem.W.nsIn K mainGlobals "abs" = some none)
  (z_list:PySem.W.nsIn K mainGlobals "list" = some none)
  (z_tuple:PySem.W.nsIn K mainGlobals "tuple" = some none)
  (z_enumerate:PySem.W.nsIn K mainGlobals "enumerate" = some none) :
  ∃fd:FuncData,(∀(s:Shared) (v:Value),BindsTo s fd ⟨[v],[]⟩ [("_law_script",v)])/\∀base:Heap,K.In base->base.Ns mainGlobals mg->FnOk l.prog w K mg base CX0 7 fa fd ["_law_script"] (sp3 K 1 zgb):=by
 have y_len:=PySem.W.mg_none_of X G z_len
 have y_range:=PySem.W.mg_none_of X G z_range
 have y_sorted:=PySem.W.mg_none_of X G z_sorted
 have y_int:=PySem.W.mg_none_of X G z_int
 have y_zip:=PySem.W.mg_none_of X G z_zip
 have y_abs:=PySem.W.mg_none_of X G z_abs
 have y_list:=PySem.W.mg_none_of X G z_list
 have y_tuple:=PySem.W.mg_none_of X G z_tuple
 have y_enumerate:=PySem.W.mg_none_of X G z_enumerate
 have yf_lacks:Fnc K mg "lacks":=⟨f1,_,a1,l1,PySem.W.mg_of X G a1⟩
 have e:=hfa.symm.trans (PySem.W.mg_of X G a19)
 cases e
 have F0:=zb1 (st:=top bd 6) l0 c0 k0
 have F1:=zb1 (st:=top bd 7) l1 c1 k1
 have F2:=zb1 (st:=top bd 4) l2 c2 k2
 have F3:=zb1 (st:=top bd 8) l3 c3 k3
 have F4:=zb1 (st:=top bd 9) l4 c4 k4
 have F5:=zb1 (st:=top bd 11) l5 c5 k5
 have F6:=zb1 (st:=top bd 23) l6 c6 k6
 have F7:=zb1 (st:=top bd 22) l7 c7 k7
 have F8:=zb1 (st:=top bd 12) l8 c8 k8
 have F9:=zb1 (st:=top bd 24) l9 c9 k9
 have F10:=zb1 (st:=top bd 25) l10 c10 k10
 have F11:=zb1 (st:=top bd 15) l11 c11 k11
 have F12:=zb1 (st:=top bd 21) l12 c12 k12
 have F13:=zb1 (st:=top bd 18) l13 c13 k13
 have F14:=zb1 (st:=top bd 20) l14 c14 k14
 have F15:=zb1 (st:=top bd 19) l15 c15 k15
 have F16:=zb1 (st:=top bd 17) l16 c16 k16
 have F17:=zb1 (st:=top bd 16) l17 c17 k17
 have F18:=zb1 (st:=top bd 14) l18 c18 k18
 have F19:=zb1 (st:=top bd 26) l19 c19 k19
 refine ⟨PySem.W.fnOf "law" "law" (zbr (top bd 26)) (zbi (top bd 26)) (zau (top bd 26)) .none kV19 dc19 pm19 an19 cd19 ct19,fun s v=>.of_eq rfl,fun base _ _=>?_⟩
 have g0:Has l.prog w K mg base "cell_fault" 1 2 zgx:=h_m_cell_fault F0 (PySem.W.mg_of X G a0)
 have g1:Has l.prog w K mg base "lacks" 2 2 zft:=h_m_lacks F1 (PySem.W.mg_of X G a1) g0
 have g2:Has l.prog w K mg base "walk_both" 3 4 zhr:=h_m_walk_both F2 (PySem.W.mg_of X G a2) y_len y_range g1 yf_lacks
 have g3:Has l.prog w K mg base "refuse_unlike" 1 2 zgy:=h_m_refuse_unlike F3 (PySem.W.mg_of X G a3)
 have g4:Has l.prog w K mg base "stands" 4 2 zd6:=h_m_stands F4 (PySem.W.mg_of X G a4) y_sorted g2 g3 yf_lacks
 have g5:Has l.prog w K mg base "run" 1 3 zd7:=h_m_run F5 (PySem.W.mg_of X G a5)
 have g6:Has l.prog w K mg base "_law_opened" 2 3 zhs:=h_m_law_opened F6 (PySem.W.mg_of X G a6) y_int g5
 have g7:Has l.prog w K mg base "_law_fails_at" 2 3 zep:=h_m_law_fails_at F7 (PySem.W.mg_of X G a7) y_len g5
 have g8:Has l.prog w K mg base "lets" 2 3 zht:=h_m_lets F8 (PySem.W.mg_of X G a8) y_len g5
 have g9:Has l.prog w K mg base "_law_row_right" 5 3 zhu:=h_m_law_row_right F9 (PySem.W.mg_of X G a9) y_len y_zip y_range g4 g6 g7 g8
 have g10:Has l.prog w K mg base "_law_told" 6 2 zeq:=h_m_law_told F10 (PySem.W.mg_of X G a10) g9 g4
 have g11:Has l.prog w K mg base "_law_take" 1 2 za2:=h_m_law_take F11 (PySem.W.mg_of X G a11) y_len y_abs
 have g12:Has l.prog w K mg base "_law_spoiled" 2 2 zgz:=h_m_law_spoiled F12 (PySem.W.mg_of X G a12) y_len g11
 have g13:Has l.prog w K mg base "_law_order" 2 2 zg0:=h_m_law_order F13 (PySem.W.mg_of X G a13) y_range y_len y_list g11
 have g14:Has l.prog w K mg base "_law_named" 3 2 zhv:=h_m_law_named F14 (PySem.W.mg_of X G a14) y_tuple y_zip y_enumerate y_len g13
 have g15:Has l.prog w K mg base "_law_other" 4 2 zga:=h_m_law_other F15 (PySem.W.mg_of X G a15) y_tuple y_range y_len y_int g14 g11
 have g16:Has l.prog w K mg base "_law_cell" 2 5 zhw:=h_m_law_cell F16 (PySem.W.mg_of X G a16) g11
 have g17:Has l.prog w K mg base "_law_machine" 3 3 zhx:=h_m_law_machine F17 (PySem.W.mg_of X G a17) y_tuple y_range g11 g16
 have g18:Has l.prog w K mg base "_law_pen" 1 1 zix:=h_m_law_pen F18 (PySem.W.mg_of X G a18)
 exact yc2 F19 y_range g4 g10 g12 g15 g17 g11 g18
theorem walk {l:PySem.W.OpenLaw}{q:Program}{loose:List Str}{XP:(Str->Option Value)->Heap->Prop}{YP:World->Heap->Prop}{d:DefRec}{K:Params->QFg}(hn:l.most=some 63) (hdf:d.params.defaults=[])
  (hY:∀(w:World) (h:Heap),YP w h->(K w.params).In h)
  (F:∀(w:World) (mg:Str->Option Value) (fa:Addr) (h:Heap),(K w.params).In h->h.Ns mainGlobals mg->mg d.name=some (.ref fa) ->
   ∃fd:FuncData,(∀(s:Shared) (u:Value),BindsTo s fd ⟨[u],[]⟩ [("_law_script",u)])/\∀base:Heap,(K w.params).In base->base.Ns mainGlobals mg->FnOk l.prog w (K w.params) mg base CX0 7 fa fd ["_law_script"] (sp3 (K w.params) 1 zgb))
  (hlaw:∀ns:List Int,ns.length<=63->∃S',zgb [.ref 0] [.flst (ns.map D.int)]=some (.bl true,S')) :
  PySem.W.WalkO q loose XP YP l.row.toRowW d [] (fun f vs=>PySem.call f vs) :=
 L2.walk_of (n:=63) (k:=7) (x:="_law_script") (CX:=fun _=>CX0) (sp:=fun w=>sp3 (K w.params) 1 zgb) hn (by decide) hdf ⟨rfl,by decide,by decide,rfl⟩ hY F (fun _ _ a ns hl hO hS=>zzc hO hS (hlaw ns hl)) fun _ _ _ _ _ z=>z
end G
end
theorem qg0 {α:Type}{a:α}{l:List α}:(a :: l)[0]? = some a:=rfl
theorem qg1 {α:Type}{a:α}{i:Nat}{l:List α}:(a :: l)[i+1]? = l[i]?:=rfl
theorem qs0 {α:Type}{a b:α}{l:List α}:(a :: l).set 0 b=b :: l:=rfl
theorem qs1 {α:Type}{a b:α}{n:Nat}{l:List α}:(a :: l).set (n+1) b=a :: l.set n b:=rfl
theorem qlt {α:Type}{l:List α}{i:Nat}{a:α}(h:l[i]? = some a):i<l.length:=(List.getElem?_eq_some_iff.mp h).1
namespace M
open PySem L3 G
theorem zbh {S:Sto}{n:Nat}{xs:List D}(h:S[n]? = some (.lst xs)):lstOf S n=some xs:=by unfold lstOf;rw [h]
inductive PQ (ns:List Int) (c:Nat) (S:Sto):Prop
 | mk (at' r:Int) (e:S[2]? = some (.lst [.ref 1,.int at',.int r])) (s:lstOf S 1=some (ns.map D.int)) (a0:0<=at') (a1:at'<=c) (r0:0<=r)
noncomputable def Fn (S S':Sto):Prop:=∀(j:Nat) (o:Ob),j≠2->S[j]? = some o->S'[j]? = some o
theorem Fn.trans {A B C:Sto}(h:Fn A B) (g:Fn B C):Fn A C:=fun j o hj e=>g j o hj (h j o hj e)
theorem Fn.gr {A B:Sto}(h:Gr A B):Fn A B:=fun _ _ _ e=>h.get e
theorem Fn.set {A:Sto}{o:Ob}:Fn A (A.set 2 o):=fun j o' hj e=>by rw [List.getElem?_set_ne (Ne.symm hj)];exact e
theorem Fn.lst {m:Nat}{A B:Sto}{xs:List D}(h:Fn A B) (hm:m≠2) (e:lstOf A m=some xs):lstOf B m=some xs:=by
 unfold lstOf at e ⊢
 cases q:A[m]? with
 | none=>rw [q] at e;cases e
 | some o=>rw [h m o hm q];rw [q] at e;exact e
theorem PQ.gr {ns:List Int}{c:Nat}{A B:Sto}(h:PQ ns c A) (g:Gr A B):PQ ns c B:=by
 obtain ⟨x,y,e,f,r1,r2,r3⟩:=h
 exact ⟨x,y,g.get e,g.lst f,r1,r2,r3⟩
theorem PQ.mono {ns:List Int}{c d:Nat}{A:Sto}(h:PQ ns c A) (g:c<=d):PQ ns d A:=by
 obtain ⟨x,y,e,f,r1,r2,r3⟩:=h
 exact ⟨x,y,e,f,r1,by omega,r3⟩
theorem PQ.lt {ns:List Int}{c:Nat}{A:Sto}(h:PQ ns c A):3<=A.length:=by
 obtain ⟨x,y,e,_⟩:=h
 have:=(qme e).1
 omega
theorem PQ.setN {ns:List Int}{c:Nat}{A:Sto}{n:Nat}{o:Ob}(h:PQ ns c A) (hn:3<=n):PQ ns c (A.set n o):=by
 obtain ⟨x,y,e,f,r1,r2,r3⟩:=h
 refine ⟨x,y,by rw [List.getElem?_set_ne (by omega)];exact e,?_,r1,r2,r3⟩
 unfold lstOf at f ⊢
 rw [List.getElem?_set_ne (by omega)];exact f
theorem Fn.setN {A B:Sto}{n:Nat}{o:Ob}(h:Fn A B) (hn:A.length<=n):Fn A (B.set n o):=fun j o' hj e=>by
 have:j<A.length:=(qme e).1
 rw [List.getElem?_set_ne (by omega)];exact h j o' hj e
theorem Fn.len {A B:Sto}(h:Fn A B) (hB:3<=B.length):A.length<=B.length:=by
 rcases Nat.lt_or_ge B.length A.length with z|z
 ·have hj:A.length-1<A.length:=by omega
  have e:=qge hj
  have:=(qme (h (A.length-1) _ (by omega) e)).1
  omega
 ·exact z
theorem yc3 {S:Sto}{a b c v:D}(h:S[2]? = some (.lst [a,b,c])):zdr (.ref 2) (.int 1) v S=some (S.set 2 (.lst [a,v,c])):=by
 unfold zdr;simp only [h];rfl
theorem zr3 {S:Sto}{a b c v:D}(h:S[2]? = some (.lst [a,b,c])):zdr (.ref 2) (.int 2) v S=some (S.set 2 (.lst [a,b,v])):=by
 unfold zdr;simp only [h];rfl
theorem zgc {S:Sto}{n:Nat}{o o':Ob}(h:S[n]? = some o'):(S.set n o)[n]? = some o:=List.getElem?_set_self (qme h).1
theorem yc4 (i:Int) (h0:0<=i) (h1:i<5):∃p,L2.atI [D.int 2147483647,.int 2147483629,.int 2147483587,.int 2147483579,.int 2147483563] i=some (.int p)/\0<p/\p<2147483648:=by
 have:i=0∨i=1∨i=2∨i=3∨i=4:=by omega
 rcases this with rfl|rfl|rfl|rfl|rfl <;> exact ⟨_,rfl,by decide,by decide⟩
inductive TkP (ns:List Int) (c:Nat) (m:Int) (S:Sto) (v:D) (S':Sto):Prop
 | mk (d:Nat) (e:v=.int (d:Int)) (h:(d:Int)<m) (p:PQ ns (c+1) S') (f:Fn S S')
local macro_rules
 | `(tactic| simp! only [$xs,*])=>`(tactic| simp only [zbg,zdt,ze7,ze2,zcu,ze1,zan,zda,zbq,zdl,zcj,zf4,zf5,zba,zeg,zck,zcl,zcm,zb4,zci,zbv,zcb,zee,ze3,ze4,zef,ze5,ze6,ze8,ze9,zdy,zdz,zd3,zd0,zd1,zd2,zd4,zfq,zfm,zeh,zei,zem,zen,zej,zek,zeo,zfn,zfa,zdu,zel,zdv,zfb,zfo,zfc,zfp,zfd,zfe,List.map_cons,List.map_nil,List.length_cons,List.length_nil,Nat.reduceAdd,Nat.reduceSub,List.replicate,List.cons_append,List.nil_append,qg0,qg1,qs0,qs1,zcd,zdc,zfg,zfj,zfk,zfl,zfh,zfi,zdd,decide_eq_true_eq,zfs,zfr,$xs,*])
theorem zbo {ns:List Int}{c:Nat}{m:Int}{S:Sto}(h:PQ ns c S) (hc:c<100000000) (h1:0<m) (h2:m<1073741824):Wo (za2 [.ref 2,.int m] S) (TkP ns c m S):=by
 obtain ⟨a,r,hS,hs,a0,a1,r0⟩:=h
 have sz5:5<=sizeLine:=by decide
 unfold za2 zru
 by_cases hr:0<r
 ·simp only [zbg,List.map_cons,List.map_nil,List.length_cons,List.length_nil,Nat.reduceAdd,Nat.reduceSub,List.replicate,List.cons_append,List.nil_append]
  refine zgw (fun _ _=>False) (TkP ns c m S) ?_ (fun _ _ z=>z.elim) (fun d _ _ o=>o)
  simp! only [zbh hS,zr3 hS,decide_eq_true_eq,hr,h1,h2,if_true,true_and,and_self]
  have d0:=Int.emod_nonneg r (show m≠0 by omega)
  have d1:=Int.emod_lt_of_pos r h1
  refine .inr ⟨_,rfl,(r % m).toNat,by rw [Int.toNat_of_nonneg d0],by rw [Int.toNat_of_nonneg d0];exact d1,⟨a,r / m,zgc hS,Fn.set.lst (by decide) hs,a0,by omega,Int.ediv_nonneg r0 (by omega)⟩,Fn.set⟩
 simp only [zbg,List.map_cons,List.map_nil,List.length_cons,List.length_nil,Nat.reduceAdd,Nat.reduceSub,List.replicate,List.cons_append,List.nil_append]
 refine za0 (l':=[some (.ref 2),some (.int m),none,none,none,none,none]) (S':=S) (by simp! only [zbh hS,decide_eq_true_eq,hr,if_false,and_self]) ?_
 refine za0 (l':=[some (.ref 2),some (.int m),none,some (.int a),none,none,none]) (S':=S) (by simp! only [zbh hS];exact ⟨(by first|rfl|trivial),(by first|rfl|trivial),(by first|rfl|trivial)⟩) ?_
 refine za0 (l':=[some (.ref 2),some (.int m),none,some (.int a),none,none,none]) (S':=S.set 2 (.lst [.ref 1,.int (a+1),.int r])) (by simp! only [yc3 hS,and_self]) ?_
 have hS2:(S.set 2 (.lst [.ref 1,.int (a+1),.int r]))[2]? = some (.lst [.ref 1,.int (a+1),.int r]):=zgc hS
 have hs2:lstOf (S.set 2 (.lst [.ref 1,.int (a+1),.int r])) 1=some (ns.map D.int):=Fn.set.lst (by decide) hs
 have f02:Fn S (S.set 2 (.lst [.ref 1,.int (a+1),.int r])):=Fn.set
 generalize S.set 2 (.lst [.ref 1,.int (a+1),.int r])=S2 at hS2 hs2 f02
 have f1:(-(2 ^ 64):Int)<7919/\(7919:Int)<2 ^ 64:=by decide
 have f5:(0:Int)<=18/\(18:Int)<=1000000/\Int.natAbs 10<2 ^ 64:=by decide
 have f7:(0:Int)<5:=by decide
 refine za0 (l':=[some (.ref 2),some (.int m),none,some (.int a),some (.int (7919*a+11)),none,none]) (S':=S2) (by simp! only [f1,true_or,and_self,true_and]) ?_
 refine zax (fun l S'=>∃k:Int,l=[some (.ref 2),some (.int m),none,some (.int a),some (.int k),none,none]/\S' = S2) ?_ ?_
 ·by_cases hl:0<(ns.length:Int)
  ·obtain ⟨x,e1,e2⟩:=yb3 (ns.map D.int) (a % (ns.length:Int)) (Int.emod_nonneg _ (by omega)) (by rw [qlm];exact Int.emod_lt_of_pos _ hl)
   obtain ⟨k,_,rfl⟩:=List.mem_map.mp e2
   simp! only [zbh hS2,hs2,e1,hl,qlm,decide_true,if_true,true_and,and_self]
   first|exact ⟨(by first|rfl|trivial),k,rfl,(by first|rfl|trivial)⟩|exact ⟨k,rfl,(by first|rfl|trivial)⟩|exact ⟨k,rfl⟩
  ·simp! only [zbh hS2,hs2,hl,qlm,if_false,decide_false,Bool.false_eq_true]
   first|exact ⟨(by first|rfl|trivial),_,rfl,(by first|rfl|trivial)⟩|exact ⟨_,rfl,(by first|rfl|trivial)⟩|exact ⟨_,rfl⟩
 rintro l S3 ⟨k,rfl,rfl⟩
 by_cases hb:a<(ns.length:Int)/\10 ^ Int.toNat 18<=(if k<0 then -k else k)
 ·obtain ⟨hb1,hb2⟩:=hb
  refine zgw (fun _ _=>False) (TkP ns c m S) ?_ (fun _ _ z=>z.elim) (fun d _ _ o=>o)
  simp! only [zbh hS2,hs2,hb1,hb2,qlm,zr3 hS2,h1,h2,f5,if_true,true_and,and_self,decide_true]
  have d0:=Int.emod_nonneg (if k<0 then -k else k) (show m≠0 by omega)
  have d1:=Int.emod_lt_of_pos (if k<0 then -k else k) h1
  exact .inr ⟨_,rfl,((if k<0 then -k else k) % m).toNat,by rw [Int.toNat_of_nonneg d0],by rw [Int.toNat_of_nonneg d0];exact d1,⟨a+1,(if k<0 then -k else k) / m,zgc hS2,Fn.set.lst (by decide) hs2,by omega,by omega,Int.ediv_nonneg (by split <;> omega) (by omega)⟩,f02.trans Fn.set⟩
 refine za0 (l':=[some (.ref 2),some (.int m),none,some (.int a),some (.int k),none,none]) (S':=S3) ?_ ?_
 ·by_cases hb1:a<(ns.length:Int)
  ·have hb2:¬10 ^ Int.toNat 18<=(if k<0 then -k else k):=fun z=>hb ⟨hb1,z⟩
   simp! only [zbh hS2,hs2,hb1,hb2,qlm,f5,if_true,if_false,true_and,and_self,decide_true,decide_false,Bool.false_eq_true]
  ·simp! only [zbh hS2,hs2,hb1,qlm,if_false,decide_false,Bool.false_eq_true,true_and,and_self]
 obtain ⟨p1,hp1,p1a,p1b⟩:=yc4 (a % 5) (by omega) (by omega)
 refine za0 (l':=[some (.ref 2),some (.int m),none,some (.int a),some (.int k),some (.int p1),none]) (S':=S3) (by simp! only [hp1,f7,sz5,decide_true,true_and,and_self]) ?_
 have q1:0<=k % 2147483549:=Int.emod_nonneg _ (by omega)
 have q2:k % 2147483549<2147483549:=Int.emod_lt_of_pos _ (by omega)
 refine zax (fun l S'=>∃n1:Int,0<=n1/\n1<2147483648/\l=[some (.ref 2),some (.int m),none,some (.int a),some (.int k),some (.int p1),some (.int n1)]/\S' = S3) ?_ ?_
 ·have g1:(-(2 ^ 64):Int)<a/\a<2 ^ 64:=by omega
  have g2:(-(2 ^ 64):Int)<k % 2147483549+1/\k % 2147483549+1<2 ^ 64:=by omega
  have g3:(0:Int)<2147483549:=by decide
  simp! only [g1,g2,g3,p1a,decide_true,true_or,true_and,and_true,and_self]
  first|exact ⟨(by first|rfl|trivial),_,Int.emod_nonneg _ (by omega),by have:=Int.emod_lt_of_pos ((k % 2147483549+1)*(a*a+48271)) p1a;omega,rfl,(by first|rfl|trivial)⟩|exact ⟨_,Int.emod_nonneg _ (by omega),by have:=Int.emod_lt_of_pos ((k % 2147483549+1)*(a*a+48271)) p1a;omega,rfl⟩
 rintro l S4 ⟨n1,n0,n2,rfl,rfl⟩
 refine zax (fun l S'=>∃n1:Int,0<=n1/\n1<2147483648/\l=[some (.ref 2),some (.int m),none,some (.int a),some (.int k),some (.int p1),some (.int n1)]/\S' = S4) ?_ ?_
 ·have q8:(0:Int)<=3/\(3:Int)<=1000000/\n1.natAbs<2 ^ 64:=⟨by decide,by decide,by omega⟩
  have f3:(-(2 ^ 64):Int)<69621/\(69621:Int)<2 ^ 64:=by decide
  have f8:(0:Int)<2147483543:=by decide
  simp! only [q8,f3,f8,decide_true,true_or,true_and,and_true,and_self]
  have z1:=Int.emod_nonneg (n1 ^ Int.toNat 3+69621*a+3) (b:=2147483543) (by omega)
  have z2:=Int.emod_lt_of_pos (n1 ^ Int.toNat 3+69621*a+3) f8
  first|exact ⟨(by first|rfl|trivial),_,z1,by omega,rfl,(by first|rfl|trivial)⟩|exact ⟨_,z1,by omega,rfl⟩
 rintro l S5 ⟨n3,n4,n5,rfl,rfl⟩
 have g4:(-(2 ^ 64):Int)<n3/\n3<2 ^ 64:=by omega
 have g5:(0:Int)<65521:=by decide
 have g6:(0:Int)<2147483497:=by decide
 have f6:(0:Int)<64/\(64:Int)<1073741824:=by decide
 simp! only [g4,g5,g6,f6,h1,h2,decide_true,true_or,true_and,and_self]
 generalize n3*(n3 % 65521+a+5) % 2147483497 / 64=q
 have d0:=Int.emod_nonneg q (show m≠0 by omega)
 have d1:=Int.emod_lt_of_pos q h1
 exact ⟨(q % m).toNat,by rw [Int.toNat_of_nonneg d0],by rw [Int.toNat_of_nonneg d0];exact d1,⟨a+1,r,hS2,hs2,by omega,by omega,r0⟩,f02⟩
theorem zgd {α:Type}{x:α}:(∃y,some x=some y)=True:=by simp
theorem zcv:1000000<=sizeLine:=by decide
theorem zd8 {t:TM}{m n:SM}{l:Lo}{S:Sto}{Q:Fl->Lo->Sto->Prop}(R:Bool->Sto->Prop) (h:Wt t l S R) (h1:∀S1,R true S1->Ws m l S1 Q) (h2:∀S1,R false S1->Ws n l S1 Q):Ws (sIf t m n) l S Q:=by
 rw [ze7]
 obtain ⟨k,S1,e,r⟩:=h
 refine ⟨k,S1,e,?_⟩
 cases k with
 | true=>exact h1 S1 r
 | false=>exact h2 S1 r
noncomputable def oD:Option Nat->D
 | none=>.non
 | some k=>.int (k:Int)
theorem zde (o:Option Nat):zch (oD o)=o.isNone:=by cases o <;> rfl
theorem zhy (k:Nat):oD (some k)=.int (k:Int):=rfl
noncomputable abbrev Cl:=Option Nat × Option Nat
noncomputable def kD (c:Cl):D:=.tup [oD c.1,oD c.2]
noncomputable def roD (cs:List Cl):D:=.tup (cs.map kD)
noncomputable def gD (g:List (List Cl)):D:=.tup (g.map roD)
noncomputable def mD (A:Nat) (g:List (List Cl)):D:=.tup [.int (A:Int),.tup (g.map roD)]
structure OkM (A:Nat) (g:List (List Cl)):Prop where
 a1:1<=A
 a4:A<=4
 r1:1<=g.length
 r24:g.length<=24
 len:∀cs∈g,cs.length=A
 go:∀cs∈g,∀c∈cs,∀x,c.1=some x->x<g.length
noncomputable def cell (g:List (List Cl)) (r a:Nat):Cl:=((g[r]?).bind fun cs=>cs[a]?).getD (none,none)
section
variable {A:Nat}{g:List (List Cl)}{r a:Nat}{S:Sto}{Q:D->Sto->Prop}
theorem zkd (h:OkM A g) (hr:r<g.length) (ha:a<A):∃cs,g[r]? = some cs/\cs[a]? = some (cell g r a)/\cs∈g/\cell g r a∈cs:=by
 have h1:g[r]? = some g[r]:=qge hr
 have h2:g[r]∈g:=qem hr
 have h3:a<g[r].length:=by rw [h.len _ h2];exact ha
 have h4:g[r][a]? = some g[r][a]:=qge h3
 have h5:cell g r a=g[r][a]:=by unfold cell;rw [h1];show (g[r][a]?).getD _=_;rw [h4];rfl
 exact ⟨_,h1,by rw [h5];exact h4,h2,by rw [h5];exact qem h3⟩
theorem ziy (h:OkM A g) (hr:r<g.length) (ha:a<A) {x:Nat}(hg:(cell g r a).1=some x):x<g.length:=by
 obtain ⟨cs,_,_,h1,h2⟩:=zkd h hr ha
 exact h.go cs h1 _ h2 x hg
theorem zmo (h:OkM A g) (hr:r<g.length) (ha:a<A):∃cs:List Cl,L2.atI (g.map roD) (r:Int)=some (.tup (cs.map kD))/\L2.atI (cs.map kD) (a:Int)=some (.tup [oD (cell g r a).1,oD (cell g r a).2]):=by
 obtain ⟨cs,h1,h2,_⟩:=zkd h hr ha
 exact ⟨cs,atI_get (by rw [qgm,h1];rfl),atI_get (by rw [qgm,h2];rfl)⟩
end
theorem zmp (xs:List D) (c:Nat) (h:c<=xs.length):zbw xs none (some (c:Int))=xs.take c:=by
 unfold zbw
 rw [HT.sIx_none,HT.sIx_nat]
 simp
 try omega
theorem zr4 (xs:List D) (c:Nat) (h:c<=xs.length):zbw xs (some (c:Int)) none=xs.drop c:=by
 unfold zbw
 rw [HT.sIx_none,HT.sIx_nat]
 have:min c xs.length=c:=by omega
 simp only [this]
 rw [List.take_of_length_le (by rw [List.length_drop];omega)]
theorem zke {ea ek:EM}{n i:Nat}{xs:List D}{y:D}{l:Lo}{S:Sto}{Q:D->Sto->Prop}(ha:∀Q',We ea l S Q' = Q' (.tup xs) S) (hk:∀Q',We ek l S Q' = Q' (.int (i:Int)) S) (hn:l[n]? = some (some y)) (hi:i<xs.length) (hx:xs.length<=100) (q:Q (.tup (xs.set i y)) S) :
  We (eOp zaz (eOp zaz (zb5 ea (zb7) (zb2 ek)) (zaf zaw (zac (zaa n) (zae)))) (zb5 ea (zb2 (eOp zaz ek (eC (.int 1)))) (zb7))) l S Q:=by
 have big:=zcv
 have e:(i:Int)+1=((i+1:Nat):Int):=by push_cast;rfl
 simp only [zcu,zd3,zan,ha,hk,hn,zcd,zd0,zd1,zd2,zd4,zb4,zbv,zcb,zdu,zdz,zda,zdy,e,zmp xs i (by omega),zr4 xs (i+1) (by omega),List.length_cons,List.length_nil,qla,List.length_take,List.length_drop]
 have e2:xs.take i++[y]++xs.drop (i+1)=xs.set i y:=by
  rw [List.set_eq_take_append_cons_drop,if_pos hi,qaa];rfl
 rw [e2]
 exact ⟨by omega,by omega,by omega,q⟩
theorem yc5 {ea ek ey:EM}{i:Nat}{xs:List D}{y:D}{l:Lo}{S:Sto}{Q:D->Sto->Prop}(ha:∀Q',We ea l S Q' = Q' (.tup xs) S) (hk:∀Q',We ek l S Q' = Q' (.int (i:Int)) S) (hn:∀Q',We ey l S Q' = Q' y S) (hi:i<xs.length) (hx:xs.length<=100) (q:Q (.tup (xs.set i y)) S) :
  We (eOp zaz (eOp zaz (zb5 ea (zb7) (zb2 ek)) (zaf zaw (zac ey (zae)))) (zb5 ea (zb2 (eOp zaz ek (eC (.int 1)))) (zb7))) l S Q:=by
 have big:=zcv
 have e:(i:Int)+1=((i+1:Nat):Int):=by push_cast;rfl
 simp only [zcu,zd3,zan,ha,hk,hn,zcd,zd0,zd1,zd2,zd4,zb4,zbv,zcb,zdu,zdz,zda,zdy,e,zmp xs i (by omega),zr4 xs (i+1) (by omega),List.length_cons,List.length_nil,qla,List.length_take,List.length_drop]
 have e2:xs.take i++[y]++xs.drop (i+1)=xs.set i y:=by
  rw [List.set_eq_take_append_cons_drop,if_pos hi,qaa];rfl
 rw [e2]
 exact ⟨by omega,by omega,by omega,q⟩
noncomputable def put (g:List (List Cl)) (r:Nat) (cs:List Cl) (a:Nat) (c:Cl):List (List Cl):=g.set r (cs.set a c)
theorem zmq {A:Nat}{g:List (List Cl)}{r a:Nat}{cs:List Cl}{c:Cl}(h:OkM A g) (hr:g[r]? = some cs) (hc:∀x,c.1=some x->x<g.length):OkM A (put g r cs a c):=by
 have hl:(put g r cs a c).length=g.length:=by simp [put]
 have hm:∀ds∈put g r cs a c,ds∈g∨ds=cs.set a c:=fun ds hd=>List.mem_or_eq_of_mem_set hd
 refine ⟨h.a1,h.a4,by rw [hl];exact h.r1,by rw [hl];exact h.r24,fun ds hd=>?_,fun ds hd d hd2 x hx=>?_⟩
 ·rcases hm ds hd with z|rfl
  ·exact h.len ds z
  ·rw [List.length_set];exact h.len cs (qmg hr)
 ·rw [hl]
  rcases hm ds hd with z|rfl
  ·exact h.go ds z d hd2 x hx
  ·rcases List.mem_or_eq_of_mem_set hd2 with z|rfl
   ·exact h.go cs (qmg hr) d z x hx
   ·exact hc x hx
theorem yc6 {S:Sto}{n i:Nat}{xs:List D}{v:D}(h:S[n]? = some (.lst xs)) (hi:i<xs.length):zdr (.ref n) (.int (i:Int)) v S=some (S.set n (.lst (xs.set i v))):=by
 unfold zdr
 simp only [h]
 unfold L2.ixN
 rw [if_pos (by omega),if_pos (by omega)]
 rfl
theorem zmr {a b c d:Int}(i:Nat) (h1:(i:Int)<4):∃x,L2.atI [D.int a,D.int b,D.int c,D.int d] (i:Int)=some (.int x)/\(x=a∨x=b∨x=c∨x=d):=by
 have:i=0∨i=1∨i=2∨i=3:=by omega
 rcases this with rfl|rfl|rfl|rfl
 ·exact ⟨a,rfl,by simp⟩
 ·exact ⟨b,rfl,by simp⟩
 ·exact ⟨c,rfl,by simp⟩
 ·exact ⟨d,rfl,by simp⟩
inductive CeP (ns:List Int) (c many:Nat) (S:Sto) (v:D) (S':Sto):Prop
 | mk (q:Cl) (e:v=kD q) (h:∀x,q.1=some x->x<many) (p:PQ ns (c+4) S') (f:Fn S S')
theorem yc7 {ns:List Int}{c many wd:Nat}{sh sf:Int}{S:Sto}(h:PQ ns c S) (hc:c<90000000) (hm:1<=many) (hm2:many<=100) (hw:1<=wd) (hw2:wd<=8):Wo (zhw [.ref 2,.int sh,.int (wd:Int),.int sf,.int (many:Int)] S) (CeP ns c many S):=by
 have sz:=zcv
 unfold zhw zrz
 simp only [zbg,List.map_cons,List.map_nil,List.length_cons,List.length_nil,Nat.reduceAdd,Nat.reduceSub,List.replicate,List.cons_append,List.nil_append]
 refine za0 (l':=[some (.ref 2),some (.int sh),some (.int (wd:Int)),some (.int sf),some (.int (many:Int)),some .non,none]) (S':=S) ⟨_,_,_,rfl,rfl,rfl,rfl⟩ ?_
 refine za0 (l':=[some (.ref 2),some (.int sh),some (.int (wd:Int)),some (.int sf),some (.int (many:Int)),some .non,some .non]) (S':=S) ⟨_,_,_,rfl,rfl,rfl,rfl⟩ ?_
 refine zax (fun l S'=>∃o:Option Nat,(∀x,o=some x->x<many)/\PQ ns (c+2) S'/\Fn S S'/\l=[some (.ref 2),some (.int sh),some (.int (wd:Int)),some (.int sf),some (.int (many:Int)),some (oD o),some .non]) ?_ ?_
 ·simp! only [zan]
  refine (zbo h (by omega) (by decide) (by decide)).mono ?_
  rintro v S1 ⟨d,rfl,hd,p1,f1⟩
  simp! only [zan]
  split
  ·refine (zbo p1 (by omega) (by omega) (by omega)).mono ?_
   rintro v S2 ⟨e,rfl,he,p2,f2⟩
   first|exact ⟨(by first|rfl|trivial),some e,fun x hx=>by cases hx;omega,p2,f1.trans f2,rfl⟩|exact ⟨some e,fun x hx=>by cases hx;omega,p2,f1.trans f2,rfl⟩
  ·first|exact ⟨(by first|rfl|trivial),none,fun x hx=>(by cases hx),p1.mono (by omega),f1,rfl⟩|exact ⟨none,fun x hx=>(by cases hx),p1.mono (by omega),f1,rfl⟩
 rintro l S1 ⟨o,ho,p1,f1,rfl⟩
 refine zax (fun l S'=>∃q:Option Nat,PQ ns (c+4) S'/\Fn S S'/\l=[some (.ref 2),some (.int sh),some (.int (wd:Int)),some (.int sf),some (.int (many:Int)),some (oD o),some (oD q)]) ?_ ?_
 ·simp! only [zan]
  refine (zbo p1 (by omega) (by decide) (by decide)).mono ?_
  rintro v S2 ⟨d,rfl,hd,p2,f2⟩
  simp! only [zan]
  split
  ·refine (zbo p2 (by omega) (by omega) (by omega)).mono ?_
   rintro v S3 ⟨e,rfl,he,p3,f3⟩
   have f8:(0:Int)<8:=by decide
   simp! only [f8,decide_true,true_and]
   have d0:=Int.emod_nonneg ((e:Int)+sf) (b:=8) (by omega)
   first|exact ⟨(by first|rfl|trivial),some (((e:Int)+sf) % 8).toNat,p3,f1.trans (f2.trans f3),by rw [zhy,Int.toNat_of_nonneg d0]⟩|exact ⟨some (((e:Int)+sf) % 8).toNat,p3,f1.trans (f2.trans f3),by rw [zhy,Int.toNat_of_nonneg d0]⟩
  ·first|exact ⟨(by first|rfl|trivial),none,p2.mono (by omega),f1.trans f2,rfl⟩|exact ⟨none,p2.mono (by omega),f1.trans f2,rfl⟩
 rintro l S2 ⟨q,p2,f2,rfl⟩
 simp! only [zan]
 exact ⟨by omega,(o,q),rfl,ho,p2,f2⟩
noncomputable def OkR (A many:Nat) (cs:List Cl):Prop:=cs.length=A/\∀c∈cs,∀x,c.1=some x->x<many
theorem yc8 {A many:Nat}{g:List (List Cl)}(a1:1<=A) (a4:A<=4) (h:∀cs∈g,OkR A many cs) (hl:g.length=many) (m1:1<=many) (m24:many<=24):OkM A g:=⟨a1,a4,by omega,by omega,fun cs hcs=>(h cs hcs).1,fun cs hcs c hc x hx=>by rw [hl];exact (h cs hcs).2 c hc x hx⟩
theorem zr5 {many:Nat}:∀{vs:List D},(∀v∈vs,∃q:Cl,v=kD q/\∀x,q.1=some x->x<many)->∃cs:List Cl,vs=cs.map kD/\∀c∈cs,∀x,c.1=some x->x<many
 | [],_=>⟨[],rfl,fun c hc=>by cases hc⟩
 | v :: vs,h=>by
  obtain ⟨c,e,hc⟩:=h v List.mem_cons_self
  obtain ⟨r,e2,hr⟩:=zr5 (vs:=vs) fun w hw=>h w (List.mem_cons_of_mem _ hw)
  refine ⟨c :: r,by rw [e,e2];rfl,fun d hd=>?_⟩
  rcases List.mem_cons.mp hd with rfl|hd
  ·exact hc
  ·exact hr d hd
inductive MaP (ns:List Int) (c A many:Nat) (S:Sto) (v:D) (S':Sto):Prop
 | mk (g:List (List Cl)) (e:v=mD A g) (ok:OkM A g) (l:g.length=many) (p:PQ ns (c+600) S') (f:Fn S S')
local macro_rules
 | `(tactic| simp_all! only [$xs,*])=>`(tactic| simp only [ze2,zcu,ze1,zan,zda,zba,zeg,zck,zcl,zcm,zb4,zci,zbv,zcb,zee,ze3,ze4,zef,ze5,ze6,ze8,ze9,zdy,zdz,zd3,zd0,zd1,zd2,zd4,zfq,zfm,zeh,zei,zem,zen,zej,zek,zeo,zfn,zfa,zdu,zel,zdv,zfb,zfo,zfc,zfp,zfd,zfe,List.map_cons,List.map_nil,List.length_cons,List.length_nil,Nat.reduceAdd,Nat.reduceSub,List.replicate,List.cons_append,List.nil_append,qg0,qg1,qs0,qs1,zcd,zdc,zfg,zfj,zfk,zfl,zfh,zfi,zdd,decide_eq_true_eq,zfs,zfr,$xs,*])
theorem yc9 {ns:List Int}{c A many:Nat}{S:Sto}(h:PQ ns c S) (hc:c<80000000) (hm:1<=many) (hm2:many<=24) (a1:1<=A) (a4:A<=4):Wo (zhx [.ref 2,.int (A:Int),.int (many:Int)] S) (MaP ns c A many S):=by
 have sz:=zcv
 have l3:=h.lt
 unfold zhx zr0
 simp only [zbg,List.map_cons,List.map_nil,List.length_cons,List.length_nil,Nat.reduceAdd,Nat.reduceSub,List.replicate,List.cons_append,List.nil_append]
 refine zax (fun l S'=>∃sh:Int,PQ ns (c+1) S'/\Fn S S'/\l=[some (.ref 2),some (.int (A:Int)),some (.int (many:Int)),some (.int sh),none,none,none,none,none,none,none]) ?_ ?_
 ·simp! only [zan]
  refine ⟨by omega,?_⟩
  refine (zbo h (by omega) (by decide) (by decide)).mono ?_
  rintro v S1 ⟨d,rfl,hd,p1,f1⟩
  obtain ⟨x,hx,_⟩:=zmr (a:=0) (b:=1) (c:=3) (d:=6) d hd
  simp! only [hx]
  first|exact ⟨(by first|rfl|trivial),x,p1,f1,rfl⟩|exact ⟨x,p1,f1,rfl⟩
 rintro l S1 ⟨sh,p1,f1,rfl⟩
 refine zax (fun l S'=>∃wd:Nat,1<=wd/\wd<=8/\PQ ns (c+2) S'/\Fn S S'/\l=[some (.ref 2),some (.int (A:Int)),some (.int (many:Int)),some (.int sh),some (.int (wd:Int)),none,none,none,none,none,none]) ?_ ?_
 ·simp! only [zan]
  refine ⟨by omega,?_⟩
  refine (zbo p1 (by omega) (by decide) (by decide)).mono ?_
  rintro v S2 ⟨d,rfl,hd,p2,f2⟩
  obtain ⟨x,hx,hx2⟩:=zmr (a:=1) (b:=2) (c:=2) (d:=8) d hd
  simp! only [hx]
  first|exact ⟨(by first|rfl|trivial),x.toNat,by omega,by omega,p2,f1.trans f2,by rw [Int.toNat_of_nonneg (by omega)]⟩|exact ⟨x.toNat,by omega,by omega,p2,f1.trans f2,by rw [Int.toNat_of_nonneg (by omega)]⟩
 rintro l S2 ⟨wd,w1,w8,p2,f2,rfl⟩
 refine zax (fun l S'=>∃al:Bool,PQ ns (c+3) S'/\Fn S S'/\l=[some (.ref 2),some (.int (A:Int)),some (.int (many:Int)),some (.int sh),some (.int (wd:Int)),some (.bl al),none,none,none,none,none]) ?_ ?_
 ·simp! only [zan]
  refine (zbo p2 (by omega) (by decide) (by decide)).mono ?_
  rintro v S3 ⟨d,rfl,hd,p3,f3⟩
  simp! only [zan]
  first|exact ⟨(by first|rfl|trivial),_,p3,f2.trans f3,rfl⟩|exact ⟨_,p3,f2.trans f3,rfl⟩
 rintro l S3 ⟨al,p3,f3,rfl⟩
 refine zax (fun l S'=>∃sf:Int,PQ ns (c+4) S'/\Fn S S'/\l=[some (.ref 2),some (.int (A:Int)),some (.int (many:Int)),some (.int sh),some (.int (wd:Int)),some (.bl al),some (.int sf),none,none,none,none]) ?_ ?_
 ·simp! only [zan]
  refine (zbo p3 (by omega) (by decide) (by decide)).mono ?_
  rintro v S4 ⟨d,rfl,hd,p4,f4⟩
  first|exact ⟨(by first|rfl|trivial),_,p4,f3.trans f4,rfl⟩|exact ⟨_,p4,f3.trans f4,rfl⟩
 rintro l S4 ⟨sf,p4,f4,rfl⟩
 have l4:=p4.lt
 have fl4:=f4.len l4
 refine za0 (l':=[some (.ref 2),some (.int (A:Int)),some (.int (many:Int)),some (.int sh),some (.int (wd:Int)),some (.bl al),some (.int sf),some (.ref S4.length),none,none,none]) (S':=S4++[.lst []]) (by simp! only [zan];exact ⟨by omega,(by first|rfl|trivial),(by first|rfl|trivial),(by first|rfl|trivial)⟩) ?_
 refine zax (fun l S'=>PQ ns (c+4+20*many) S'/\Fn S S'/\∃(g:List (List Cl)) (x8 x9 x10:Option D),(∀cs∈g,OkR A many cs)/\g.length=many/\S'[S4.length]? = some (.lst (g.map roD))/\l=[some (.ref 2),some (.int (A:Int)),some (.int (many:Int)),some (.int sh),some (.int (wd:Int)),some (.bl al),some (.int sf),some (.ref S4.length),x8,x9,x10]) ?_ ?_
 ·refine zkb (fun i l S'=>PQ ns (c+4+20*i) S'/\Fn S S'/\∃(g:List (List Cl)) (x8 x9 x10:Option D),(∀cs∈g,OkR A many cs)/\g.length=i/\S'[S4.length]? = some (.lst (g.map roD))/\l=[some (.ref 2),some (.int (A:Int)),some (.int (many:Int)),some (.int sh),some (.int (wd:Int)),some (.bl al),some (.int sf),some (.ref S4.length),x8,x9,x10]) (fun _ _=>False) (n:=many) rfl (by omega) ⟨p4.gr ⟨_,rfl⟩,f4.trans (Fn.gr ⟨_,rfl⟩),[],_,_,_,fun cs hcs=>(by cases hcs),rfl,zb9,rfl⟩ ?_ ?_ (fun d l' S' z=>z.elim)
  ·rintro i l S5 hi ⟨p5,f5,g,x8,x9,x10,okg,hl,hs5,rfl⟩
   simp only [zba,qs0,qs1]
   have app:∀(S9:Sto) (cs:List Cl) (x9 x10:Option D),PQ ns (c+4+20*i+20) S9->Fn S S9->S9[S4.length]? = some (.lst (g.map roD))->OkR A many cs->Wo (zcy (.ref S4.length) [roD cs] S9) fun _ S'=>PQ ns (c+4+20*(i+1)) S'/\Fn S S'/\∃(g:List (List Cl)) (x8' x9' x10':Option D),(∀cs∈g,OkR A many cs)/\g.length=i+1/\S'[S4.length]? = some (.lst (g.map roD))/\([some (.ref 2),some (.int (A:Int)),some (.int (many:Int)),some (.int sh),some (.int (wd:Int)),some (.bl al),some (.int sf),some (.ref S4.length),some (.int (i:Int)),x9,x10]:Lo)=[some (.ref 2),some (.int (A:Int)),some (.int (many:Int)),some (.int sh),some (.int (wd:Int)),some (.bl al),some (.int sf),some (.ref S4.length),x8',x9',x10']:=by
    intro S9 cs y9 y10 p9 f9 hs9 okc
    rw [zhq hs9 (by rw [qlm];omega)]
    refine ⟨(p9.setN l4).mono (by omega),f9.setN fl4,g++[cs],_,_,_,fun ds hd=>?_,by simp [hl],by rw [zgc hs9];simp,rfl⟩
    rcases List.mem_append.mp hd with z|z
    ·exact okg ds z
    ·have:ds=cs:=by simpa using z
     subst this;exact okc
   refine zd8 (fun b S'=>PQ ns (c+4+20*i+1) S'/\Fn S S'/\S'[S4.length]? = some (.lst (g.map roD))/\(b=true->0<i)) ?_ ?_ ?_
   ·simp! only [zee]
    cases al with
    | false=>simp only [Bool.false_eq_true,if_false];exact ⟨p5.mono (by omega),f5,hs5,fun z=>by cases z⟩
    | true =>
     simp only [if_true]
     by_cases hi0:(0:Int)<(i:Int)
     ·simp only [hi0,decide_true,if_true]
      refine (zbo p5 (by omega) (by decide) (by decide)).mono ?_
      rintro v S6 ⟨d,rfl,hd,p6,f6⟩
      simp! only [zan]
      exact ⟨p6,f5.trans f6,f6 _ _ (by omega) hs5,fun _=>by omega⟩
     ·simp only [hi0,decide_false,Bool.false_eq_true,if_false]
      exact ⟨p5.mono (by omega),f5,hs5,fun z=>by cases z⟩
   ·rintro S6 ⟨p6,f6,hs6,hi0⟩
    have hi0:=hi0 rfl
    refine zax (fun l S'=>PQ ns (c+4+20*i+2) S'/\Fn S S'/\S'[S4.length]? = some (.lst (g.map roD))/\∃cs,cs∈g/\l=[some (.ref 2),some (.int (A:Int)),some (.int (many:Int)),some (.int sh),some (.int (wd:Int)),some (.bl al),some (.int sf),some (.ref S4.length),some (.int (i:Int)),some (roD cs),x10]) ?_ ?_
    ·simp! only [zan]
     refine (zbo p6 (by omega) (by omega) (by omega)).mono ?_
     rintro v S7 ⟨d,rfl,hd,p7,f7⟩
     have hs7:=f7 _ _ (by omega) hs6
     obtain ⟨cs,hcs⟩:∃cs,g[d]? = some cs:=⟨_,qge (by omega)⟩
     have e1:L2.atI (g.map roD) (d:Int)=some (roD cs):=atI_get (by rw [qgm,hcs];rfl)
     simp! only [zbh hs7,e1]
     first|exact ⟨(by first|rfl|trivial),p7,f6.trans f7,hs7,cs,qmg hcs,rfl⟩|exact ⟨p7,f6.trans f7,hs7,cs,qmg hcs,rfl⟩
    rintro l S7 ⟨p7,f7,hs7,cs,hcs,rfl⟩
    have okc:=okg cs hcs
    refine zax (fun l S'=>PQ ns (c+4+20*i+3) S'/\Fn S S'/\S'[S4.length]? = some (.lst (g.map roD))/\∃a:Nat,a<A/\l=[some (.ref 2),some (.int (A:Int)),some (.int (many:Int)),some (.int sh),some (.int (wd:Int)),some (.bl al),some (.int sf),some (.ref S4.length),some (.int (i:Int)),some (roD cs),some (.int (a:Int))]) ?_ ?_
    ·simp! only [zan]
     refine (zbo p7 (by omega) (by omega) (by omega)).mono ?_
     rintro v S8 ⟨d,rfl,hd,p8,f8⟩
     first|exact ⟨(by first|rfl|trivial),p8,f7.trans f8,f8 _ _ (by omega) hs7,d,by omega,rfl⟩|exact ⟨p8,f7.trans f8,f8 _ _ (by omega) hs7,d,by omega,rfl⟩
    rintro l S8 ⟨p8,f8,hs8,a,ha,rfl⟩
    obtain ⟨d,hd⟩:∃d,cs[a]? = some d:=⟨_,qge (by rw [okc.1];exact ha)⟩
    have e2:L2.atI (cs.map kD) (a:Int)=some (.tup [oD d.1,oD d.2]):=atI_get (by rw [qgm,hd];rfl)
    rw [zcj,zci]
    simp only [zan,qg0,qg1,zcd,zf9 hs8,zgd,true_and]
    rw [zbv]
    refine yc5 (xs:=cs.map kD) (i:=a) (y:=kD (d.1,none)) (fun Q'=>by unfold roD;simp_all! only [zan]) (fun Q'=>by simp_all! only [zan]) (fun Q'=>?_) (by rw [qlm,okc.1];exact ha) (by rw [qlm,okc.1];omega) ?_
    ·have s2:2<=sizeLine:=by omega
     unfold roD
     simp_all! only [e2,s2,true_and]
     rfl
    rw [zcb]
    have:=app S8 (cs.set a (d.1,none)) (some (roD cs)) (some (.int (a:Int))) (p8.mono (by omega)) f8 hs8 ⟨by rw [List.length_set];exact okc.1,fun q hq x hx=>by
     rcases List.mem_or_eq_of_mem_set hq with z|rfl
     ·exact okc.2 q z x hx
     ·exact okc.2 d (qmg hd) x hx⟩
    unfold roD at this ⊢
    rw [List.map_set] at this
    refine this.mono ?_
    rintro _ S9 q
    exact .inl ⟨(by first|exact .inl rfl|exact .inl trivial|trivial),q⟩
   ·rintro S6 ⟨p6,f6,hs6,_⟩
    rw [zcj,zci]
    simp only [zan,qg0,qg1,zcd,zf9 hs6,zgd,true_and]
    rw [zbv,zb4,zbv]
    refine yb4 (zbm 0 A) (fun v=>∃q:Cl,v=kD q/\∀x,q.1=some x->x<many) (fun j S'=>PQ ns (c+4+20*i+1+4*j) S'/\Fn S S'/\S'[S4.length]? = some (.lst (g.map roD))) (fun l=>∃x0,l=[x0,some (.ref 2),some (.int sh),some (.int (wd:Int)),some (.int sf),some (.int (many:Int))]) (zrb (n:=A) rfl (by omega)) ⟨p6,f6,hs6⟩ ⟨_,rfl⟩ (fun j S' _=>rfl) (by rw [zir];omega) ?_ ?_
    ·rintro j x l S7 hx ⟨x0,rfl⟩ ⟨p7,f7,hs7⟩
     have hj:=(zjx hx).1
     simp only [zba,qs0]
     refine ⟨⟨_,rfl⟩,?_⟩
     simp only [zb4,zbv,zcb,zan,qg0,qg1,zcd]
     refine (yc7 p7 (by omega) hm (by omega) w1 w8).mono ?_
     rintro v S8 ⟨q,rfl,hq,p8,f8⟩
     exact ⟨⟨q,rfl,hq⟩,p8.mono (by omega),f7.trans f8,f8 _ _ (by omega) hs7⟩
    ·rintro vs S7 hvl hv ⟨p7,f7,hs7⟩
     obtain ⟨cs,rfl,hcs⟩:=zr5 hv
     rw [zir] at hvl p7
     rw [qlm] at hvl
     simp only [zcb,zdv,zdd,zdc]
     have:=app (S7++[.lst (cs.map kD)]) cs x9 x10 ((p7.gr ⟨_,rfl⟩).mono (by omega)) (f7.trans (Fn.gr ⟨_,rfl⟩)) (zf8 hs7) ⟨hvl,hcs⟩
     unfold roD at this ⊢
     refine this.mono ?_
     rintro _ S9 q
     exact .inl ⟨(by first|exact .inl rfl|exact .inl trivial|trivial),q⟩
  ·rintro l' S' ⟨p5,f5,rest⟩
   exact ⟨rfl,p5,f5,rest⟩
 rintro l S5 ⟨p5,f5,g,x8,x9,x10,okg,hl,hs5,rfl⟩
 simp! only [zbh hs5]
 exact ⟨by omega,g,rfl,yc8 a1 a4 okg hl hm hm2,hl,p5.mono (by omega),f5⟩
theorem yda {n:Nat}{i:Int}{S:Sto}{xs:List D}(h:S[n]? = some (.lst xs)) (h0:0<=i) (h1:i<xs.length) (h2:xs.length<1000000):∃y,xs[i.toNat]? = some y/\∀Q:D->Sto->Prop,Wo (zgq (.ref n) [.int i] S) Q=Q y (S.set n (.lst (xs.eraseIdx i.toNat))):=by
 have hl:i.toNat<xs.length:=by omega
 refine ⟨xs[i.toNat],qge hl,fun Q=>?_⟩
 have e:PySem.seqIndex? i xs.length=some i.toNat:=by
  unfold PySem.seqIndex?
  first
   | (simp;omega)
   | (rw [if_pos (by omega)];try rw [if_pos (by omega)])
 have:zgq (.ref n) [.int i] S=some (xs[i.toNat],S.set n (.lst (xs.eraseIdx i.toNat))):=by
  unfold zgq
  dsimp only
  rw [h]
  dsimp only
  rw [e]
  show ((xs[i.toNat]?).bind _)=_
  rw [qge hl]
  show (if _ then _ else _)=_
  rw [if_pos (by omega)]
 rw [this];exact zbe
noncomputable def nD (a:Nat):D:=.int (a:Int)
theorem ydb (n:Nat):zbm 0 n=(List.range n).map nD:=by
 unfold zbm nD
 apply List.map_congr_left
 intro i _
 show D.int (0+(i:Int))=D.int (i:Int)
 rw [Int.zero_add]
theorem zr6:∀(l:List Nat) (i:Nat) (h:i<l.length),(l[i] :: l.eraseIdx i).Perm l
 | [],i,h=>absurd h (Nat.not_lt_zero _)
 | x :: l,0,_=>.refl _
 | x :: l,i+1,h=>by
  have ih:=zr6 l i (by simpa using h)
  show (l[i]'(by simpa using h) :: x :: l.eraseIdx i).Perm (x :: l)
  exact (List.Perm.swap ..).trans (ih.cons x)
theorem zr7 {α β:Type}(f:α->β):∀(l:List α) (i:Nat),(l.map f).eraseIdx i=(l.eraseIdx i).map f
 | [],_=>rfl
 | x :: l,0=>rfl
 | x :: l,i+1=>by
  show f x :: (l.map f).eraseIdx i=f x :: (l.eraseIdx i).map f
  rw [zr7 f l i]
inductive OrP (ns:List Int) (c many:Nat) (S:Sto) (v:D) (S':Sto):Prop
 | mk (n:Nat) (os:List Nat) (e:v=.ref n) (hn:S.length<=n) (hs:S'[n]? = some (.lst (os.map nD))) (pm:os.Perm (List.range many)) (p:PQ ns (c+many) S') (f:Fn S S')
theorem ydc {ns:List Int}{c many:Nat}{S:Sto}(h:PQ ns c S) (hc:c<80000000) (hm:many<=600):Wo (zg0 [.ref 2,.int (many:Int)] S) (OrP ns c many S):=by
 have sz:=zcv
 have l3:=h.lt
 unfold zg0 zrw
 simp only [zbg,List.map_cons,List.map_nil,List.length_cons,List.length_nil,Nat.reduceAdd,Nat.reduceSub,List.replicate,List.cons_append,List.nil_append]
 have hr0:∀y:Int,0<=y/\y<1000->zb3 (zac (zaa 1) zae) [some (.ref 2),some (.int y),none] S=some ((0,y.toNat),S):=fun y hy=>by
  unfold zb3
  show (if _ then _ else _)=_
  rw [if_pos (by omega)]
 have hr:=hr0 (many:Int) (by omega)
 rw [Int.toNat_natCast] at hr
 refine za0 (l':=[some (.ref 2),some (.int (many:Int)),some (.ref S.length)]) (S':=S++[.lst ((List.range many).map nD)]) ?_ ?_
 ·rw [zbq]
  refine ⟨.ref S.length,S++[.lst (zbm 0 many)],?_,?_⟩
  ·unfold zl7
   rw [hr]
   show (if many<=sizeLine then _ else _)=_
   rw [if_pos (by omega)]
  ·rw [ydb]
   simp only [zba,qs0,qs1]
   first|exact ⟨(by first|rfl|trivial),(by first|rfl|trivial),(by first|rfl|trivial)⟩|exact ⟨(by first|rfl|trivial),(by first|rfl|trivial)⟩
 rw [zdl]
 refine zml (zbm 0 many) (fun i acc l S'=>∃(os left:List Nat) (x0:Option D),acc=os.map nD/\os.length=i/\(os++left).Perm (List.range many)/\S'[S.length]? = some (.lst (left.map nD))/\PQ ns (c+i) S'/\Fn S S'/\l=[x0,some (.ref S.length),some (.ref 2)]) (zrb (n:=many) rfl (by omega)) ⟨[],List.range many,none,rfl,rfl,.refl _,zb9,h.gr ⟨_,rfl⟩,Fn.gr ⟨_,rfl⟩,rfl⟩ (fun _ _ _ _ _=>rfl) ?_ ?_
 ·rintro i x acc l S1 hx ⟨os,left,x0,rfl,hl,pm,hs1,p1,f1,rfl⟩
  have hi:=(zjx hx).1
  have hll:os.length+left.length=many:=by
   have:=pm.length_eq
   rw [qla,List.length_range] at this;exact this
  simp only [zba,qs0]
  refine ⟨true,S1,rfl,?_⟩
  dsimp only
  rw [if_pos rfl,zci]
  simp_all! only [zf9 hs1,zbh hs1,zgd,true_and,qlm]
  refine (zbo p1 (by omega) (by omega) (by omega)).mono ?_
  rintro v S2 ⟨d,rfl,hd,p2,f2⟩
  have hs2:=f2 _ _ (by omega) hs1
  have hdl:d<left.length:=by omega
  obtain ⟨y,hy,hq⟩:=yda (i:=(d:Int)) hs2 (by omega) (by rw [qlm];omega) (by rw [qlm];omega)
  rw [hq]
  rw [Int.toNat_natCast,qgm,qge hdl] at hy
  have hy:nD left[d]=y:=qoi hy
  refine ⟨os++[left[d]],left.eraseIdx d,_,by rw [←hy];simp,by simp [hl],?_,?_,(p2.setN l3).mono (by omega),(f1.trans f2).setN (qlr _),rfl⟩
  ·rw [qaa]
   refine List.Perm.trans (List.Perm.append_left os ?_) pm
   exact zr6 left d hdl
  ·rw [zgc hs2,Int.toNat_natCast,zr7]
 ·rintro acc l' S1 ⟨os,left,x0,rfl,hl,pm,hs1,p1,f1,rfl⟩
  rw [zir] at hl p1
  have hll:os.length+left.length=many:=by
   have:=pm.length_eq
   rw [qla,List.length_range] at this;exact this
  have:left=[]:=List.eq_nil_of_length_eq_zero (by omega)
  subst this
  rw [List.append_nil] at pm
  have l1:=f1.len p1.lt
  exact ⟨by rw [qlm];omega,⟨_,os,rfl,l1,zb9,pm,p1.gr ⟨_,rfl⟩,f1.trans (Fn.gr ⟨_,rfl⟩)⟩⟩
noncomputable def zl (xs ys:List D):List D:=List.zipWith (fun x y=>D.tup [x,y]) xs ys
theorem ziz (xs ys:List D):(zl xs ys).length=min xs.length ys.length:=by simp [zl]
theorem zr8 (xs ys:List D) (i:Nat):(zl xs ys)[i]? = (xs[i]?).bind fun x=>(ys[i]?).map fun y=>D.tup [x,y]:=by
 unfold zl
 rw [List.getElem?_zipWith]
 cases xs[i]? <;> cases ys[i]? <;> rfl
theorem zr9 {i1 i2:ItM}{i:Nat}{S:Sto}{xs ys:List D}(h1:i1 i S=some xs[i]?) (h2:i2 i S=some ys[i]?):itZ i1 i2 i S=some (zl xs ys)[i]?:=by
 unfold itZ
 rw [h1,zr8]
 cases hx:xs[i]? with
 | none=>rfl
 | some x =>
  show (i2 i S).bind _=_
  rw [h2]
  cases hy:ys[i]? <;> rfl
theorem ydd {as:AM}{l:Lo}{S S1:Sto}{n:Nat}{xs ys:List D}(h:as l S=some ([.ref n,.tup ys],S1)) (hn:lstOf S1 n=some xs):zgu as l S=some (itZ (itL n) (itX ys),(zl xs ys).length+1,S1):=by
 unfold zgu
 rw [h]
 have e1:sqI S1 (.ref n)=some (itL n,xs.length):=by
  show (lstOf S1 n).bind _=_
  rw [hn];rfl
 show ((sqI S1 (.ref n)).bind _)=_
 rw [e1]
 show some _=_
 rw [ziz]
theorem yde {as:AM}{l:Lo}{S S1:Sto}{xs ys:List D}(h:as l S=some ([.tup xs,.tup ys],S1)):zgu as l S=some (itZ (itX xs) (itX ys),(zl xs ys).length+1,S1):=by
 unfold zgu
 rw [h]
 show some _=_
 rw [ziz]
noncomputable def rn (od:List Nat) (c:Cl):Cl:=(c.1.map fun x=>od.getD x 0,c.2)
noncomputable def thF (od:List Nat):D->D
 | .tup [.int x,_]=>nD (od.getD x.toNat 0)
 | _=>.non
noncomputable def zpF:D->D
 | .tup [t,.tup [_,s]]=>.tup [t,s]
 | _=>.non
theorem ydf (od:List Nat) (c:Cl):thF od (kD c)=oD (rn od c).1:=by
 obtain ⟨c1,c2⟩:=c
 cases c1 with
 | none=>rfl
 | some x=>rfl
theorem ydg (od:List Nat) (cs:List Cl):(cs.map kD).map (thF od)=cs.map fun c=>oD (rn od c).1:=by
 rw [List.map_map]
 apply List.map_congr_left
 intro c _
 exact ydf od c
theorem zsa (od:List Nat):∀cs:List Cl,(zl (cs.map fun c=>oD (rn od c).1) (cs.map kD)).map zpF=(cs.map (rn od)).map kD
 | []=>rfl
 | c :: cs=>by
  have:=zsa od cs
  unfold zl at this ⊢
  rw [List.map_cons,List.map_cons,List.zipWith_cons_cons,List.map_cons,this]
  rfl
structure Nmd (od:List Nat) (g g':List (List Cl)):Prop where
 pm:od.Perm (List.range g.length)
 z:od[0]? = some 0
 len:g'.length=g.length
 at_:∀(i j:Nat) cs,g[i]? = some cs->od[i]? = some j->g'[j]? = some (cs.map (rn od))
theorem zms {od:List Nat}{n i j k:Nat}(pm:od.Perm (List.range n)) (hi:od[i]? = some k) (hj:od[j]? = some k):i=j:=by
 have nd:od.Nodup:=pm.nodup_iff.mpr List.nodup_range
 obtain ⟨h1,e1⟩:=qme hi
 obtain ⟨h2,e2⟩:=qme hj
 exact (List.getElem_inj nd).mp (e1.trans e2.symm)
theorem zsb {od:List Nat}{n k:Nat}(pm:od.Perm (List.range n)) (hk:k<n):∃i:Nat,i<n/\od[i]? = some k:=by
 have:k∈od:=pm.mem_iff.mpr (List.mem_range.mpr hk)
 obtain ⟨i,hi,e⟩:=List.mem_iff_getElem.mp this
 have hl:=pm.length_eq
 rw [List.length_range] at hl
 exact ⟨i,by omega,by rw [qge hi,e]⟩
theorem zmt {od:List Nat}{n i k:Nat}(pm:od.Perm (List.range n)) (h:od[i]? = some k):k<n:=List.mem_range.mp (pm.mem_iff.mp (qmg h))
theorem zkf {od:List Nat}{n i:Nat}(pm:od.Perm (List.range n)) (h:i<n):∃k,od[i]? = some k:=by
 have hl:=pm.length_eq
 rw [List.length_range] at hl
 exact ⟨_,qge (by omega)⟩
theorem ydh {od:List Nat}{n:Nat}{c:Cl}(pm:od.Perm (List.range n)) (h:∀x,c.1=some x->x<n):∀x,(rn od c).1=some x->x<n:=by
 intro x hx
 unfold rn at hx
 obtain ⟨y,hy,e⟩:=Option.map_eq_some_iff.mp hx
 obtain ⟨k,hk⟩:=zkf pm (h y hy)
 rw [←e,List.getD_eq_getElem?_getD,hk]
 exact zmt pm hk
theorem Nmd.ok {A:Nat}{od:List Nat}{g g':List (List Cl)}(h:Nmd od g g') (ok:OkM A g):OkM A g':=by
 have key:∀cs∈g',∃ds∈g,cs=ds.map (rn od):=fun cs hcs=>by
  obtain ⟨k,hk,rfl⟩:=List.mem_iff_getElem.mp hcs
  obtain ⟨i,hi,e⟩:=zsb h.pm (by rw [h.len] at hk;exact hk)
  have:=h.at_ i k _ (qge hi) e
  rw [qge hk] at this
  exact ⟨_,qem hi,qoi this⟩
 refine ⟨ok.a1,ok.a4,by rw [h.len];exact ok.r1,by rw [h.len];exact ok.r24,fun cs hcs=>?_,fun cs hcs c hc x hx=>?_⟩
 ·obtain ⟨ds,hd,rfl⟩:=key cs hcs
  rw [qlm];exact ok.len ds hd
 ·obtain ⟨ds,hd,rfl⟩:=key cs hcs
  obtain ⟨d,hd2,rfl⟩:=List.mem_map.mp hc
  rw [h.len]
  exact ydh h.pm (ok.go ds hd d hd2) x hx
inductive NmP (ns:List Int) (c A:Nat) (g:List (List Cl)) (S:Sto) (v:D) (S':Sto):Prop
 | mk (od:List Nat) (g':List (List Cl)) (e:v=mD A g') (h:Nmd od g g') (p:PQ ns (c+30) S') (f:Fn S S')
theorem ydi {ns:List Int}{c A:Nat}{g:List (List Cl)}{S:Sto}(h:PQ ns c S) (hc:c<80000000) (ok:OkM A g):Wo (zhv [.ref 2,mD A g] S) (NmP ns c A g S):=by
 have sz:=zcv
 have l3:=h.lt
 have r1:=ok.r1
 have r24:=ok.r24
 have a4:=ok.a4
 unfold zhv zrx mD
 simp only [zbg,List.map_cons,List.map_nil,List.length_cons,List.length_nil,Nat.reduceAdd,Nat.reduceSub,List.replicate,List.cons_append,List.nil_append]
 generalize hM:D.tup [.int (A:Int),.tup (g.map roD)]=dM
 refine zax (fun l S'=>PQ ns (c+30) S'/\Fn S S'/\∃(od:List Nat) (n:Nat),od.Perm (List.range g.length)/\od[0]? = some 0/\S.length<=n/\3<=n/\S'[n]? = some (.lst (od.map nD))/\l=[some (.ref 2),some dM,some (.ref n),none,none,none,none]) ?_ ?_
 ·rw [zbq,zcu]
  simp only [zb4,zbv,zcb,zda,zel,List.length_cons,List.length_nil]
  refine ⟨by omega,?_⟩
  obtain ⟨v,S1,e1,n,os,rfl,hn,hs1,pm,p1,f1⟩:=ydc (many:=g.length-1) (h.gr (⟨_,rfl⟩:Gr S (S++[.lst [.int 0]]))) hc (by omega)
  have key:We (zaf zg0 (zac (zaa 0) (zac (eOp zli (zaf zbx (zac (eOp zaj (zaa 1) (eC (.int 1))) (zae))) (eC (.int 1))) (zae)))) [some (.ref 2),some dM,none,none,none,none,none] (S++[.lst [.int 0]]) fun v T=>v=.ref n/\T=S1:=by
   rw [←hM]
   simp_all! only [qlm]
   rw [show ((g.length:Nat):Int)-1=((g.length-1:Nat):Int) by omega]
   exact ⟨_,_,e1,(by first|rfl|trivial),(by first|rfl|trivial)⟩
  obtain ⟨v2,T2,key,hv2,hT2⟩:=key
  rw [hv2,hT2] at key
  rw [qla,List.length_singleton] at hn
  have ol:=pm.length_eq
  rw [List.length_range] at ol
  have h0:S1[S.length]? = some (.lst [.int 0]):=f1 _ _ (by omega) zb9
  refine zj9 (os.map nD) (fun d=>match d with | .int k=>.int (1+k)|_=>.non) (fun T=>Gr S1 T) (fun l=>∃x0,l=[x0]) (zre key (zbh hs1)) (Gr.refl S1) ⟨none,rfl⟩ (fun i T g1=>zmm (zbh (g1.get hs1))) (by rw [qlm];omega) ?_ ?_
  ·rintro x l T hx ⟨x0,rfl⟩ gT
   obtain ⟨k,_,rfl⟩:=List.mem_map.mp hx
   simp only [zba,qs0]
   refine ⟨gT,⟨_,rfl⟩,?_⟩
   unfold nD
   simp_all! only [zan]
   first|exact ⟨(by first|rfl|trivial),gT⟩|exact ⟨gT⟩
  ·rintro T gT
   have e2:((os.map nD).map fun d=>match d with | .int k=>D.int (1+k)|_=>.non)=(os.map (1 + ·)).map nD:=by
    rw [List.map_map,List.map_map]
    apply List.map_congr_left
    intro k _
    show D.int (1+(k:Int))=D.int ((1+k:Nat):Int)
    rw [show ((1+k:Nat):Int)=1+(k:Int) by omega]
   rw [e2]
   rw [yb9 (zf8 (gT.get h0)) zb9]
   refine ⟨by simp;omega,?_⟩
   simp only [zba,qs0,qs1]
   have g9:Gr S1 (T++[.lst ((os.map (1 + ·)).map nD)]++[.lst ([.int 0]++(os.map (1 + ·)).map nD)]):=(gT.trans ⟨_,rfl⟩).trans ⟨_,rfl⟩
   have lT:=(Fn.gr gT).len (p1.gr gT).lt
   have lS1:=f1.len p1.lt
   rw [qla,List.length_singleton] at lS1
   refine ⟨(by first|rfl|trivial),(p1.gr g9).mono (by omega),((Fn.gr ⟨_,rfl⟩:Fn S (S++[.lst [.int 0]])).trans f1).trans (Fn.gr g9),0 :: os.map (1 + ·),_,?_,rfl,?_,?_,zb9,rfl⟩
   ·have:List.range g.length=0 :: (List.range (g.length-1)).map (1 + ·):=by
     obtain ⟨m,hm⟩:∃m,g.length=m+1:=⟨g.length-1,by omega⟩
     rw [hm,Nat.add_sub_cancel,List.range_succ_eq_map]
     exact congrArg (List.cons 0) (List.map_congr_left fun a _=>Nat.add_comm a 1)
    rw [this]
    exact (pm.map (1 + ·)).cons 0
   ·rw [qla];omega
   ·rw [qla];omega
 rintro l S1 ⟨p1,f1,od,n,pm,od0,hn,n3,hs1,rfl⟩
 have odl:=pm.length_eq
 rw [List.length_range] at odl
 have l1:=p1.lt
 refine zax (fun l S'=>PQ ns (c+30) S'/\Fn S S'/\S'[n]? = some (.lst (od.map nD))/\∃m,m≠n/\3<=m/\S.length<=m/\S'[m]? = some (.lst (List.replicate g.length (.tup [])))/\l=[some (.ref 2),some dM,some (.ref n),some (.ref m),none,none,none]) ?_ ?_
 ·rw [zbq]
  refine zj9 (od.map nD) (fun _=>.tup []) (fun T=>Gr S1 T) (fun l=>∃x0,l=[x0]) (zre rfl (zbh hs1)) (Gr.refl S1) ⟨none,rfl⟩ (fun i T g1=>zmm (zbh (g1.get hs1))) (by rw [qlm];omega) ?_ ?_
  ·rintro x l T hx ⟨x0,rfl⟩ gT
   simp only [zba,qs0]
   refine ⟨gT,⟨_,rfl⟩,?_⟩
   simp_all! only [zan]
   exact ⟨by omega,(by first|rfl|trivial),gT⟩
  ·rintro T gT
   simp only [zba,qs0,qs1]
   have lT:=(Fn.gr gT).len (p1.gr gT).lt
   have nT:=(qme hs1).1
   have fl:=f1.len l1
   refine ⟨(by first|rfl|trivial),(p1.gr gT).gr ⟨_,rfl⟩,f1.trans ((Fn.gr gT).trans (Fn.gr ⟨_,rfl⟩)),zf8 (gT.get hs1),T.length,by omega,by omega,by omega,?_,rfl⟩
   rw [zb9]
   congr 2
   rw [List.eq_replicate_iff]
   refine ⟨by simp [odl],fun d hd=>?_⟩
   obtain ⟨_,_,rfl⟩:=List.mem_map.mp hd
   rfl
 rintro l S2 ⟨p2,f2,hs2,m,mn,m3,hm,hm2,rfl⟩
 refine zax (fun l S'=>PQ ns (c+30) S'/\Fn S S'/\∃rs:List D,rs.length=g.length/\(∀(j k:Nat) cs,g[j]? = some cs->od[j]? = some k->rs[k]? = some (roD (cs.map (rn od))))/\S'[m]? = some (.lst rs)/\∃x4 x5 x6,l=[some (.ref 2),some dM,some (.ref n),some (.ref m),x4,x5,x6]) ?_ ?_
 ·refine zrg (enl (g.map roD)) (fun i l S'=>PQ ns (c+30) S'/\Fn S S'/\S'[n]? = some (.lst (od.map nD))/\∃rs:List D,rs.length=g.length/\(∀(j k:Nat) cs,j<i->g[j]? = some cs->od[j]? = some k->rs[k]? = some (roD (cs.map (rn od))))/\S'[m]? = some (.lst rs)/\∃x4 x5 x6,l=[some (.ref 2),some dM,some (.ref n),some (.ref m),x4,x5,x6]) (fun _ _=>False) (yb7 (by rw [←hM];rfl)) ⟨p2,f2,hs2,_,by simp,fun j k cs hj=>absurd hj (Nat.not_lt_zero _),hm2,_,_,_,rfl⟩ (fun _ _ _ _=>yb6) ?_ ?_ (fun d l' S' z=>z.elim)
  ·rintro i x l S3 hx ⟨p3,f3,hs3,rs,hrl,hr,hm3,x4,x5,x6,rfl⟩
   rw [zrd,qgm] at hx
   obtain ⟨y,hy,rfl⟩:=Option.map_eq_some_iff.mp hx
   obtain ⟨cs,hcs,rfl⟩:=Option.map_eq_some_iff.mp hy
   have hi:i<g.length:=(qme hcs).1
   have hcl:=ok.len cs (qmg hcs)
   have hgo:=ok.go cs (qmg hcs)
   obtain ⟨k,hk⟩:=zkf pm hi
   have hkl:=zmt pm hk
   simp only [zck,zcm,zcl,zba,List.length_cons,List.length_nil,qs0,qs1]
   refine ⟨by first|rfl|trivial,?_⟩
   refine zax (fun l S'=>Gr S3 S'/\S'[S'.length-1]? = some (.lst (cs.map fun c=>oD (rn od c).1))/\l=[some (.ref 2),some dM,some (.ref n),some (.ref m),some (.int (i:Int)),some (roD cs),some (.ref (S'.length-1))]) ?_ ?_
   ·rw [zbq]
    refine zj9 (cs.map kD) (thF od) (fun T=>Gr S3 T) (fun l=>∃x0 x1,l=[x0,x1,some (.ref n)]) (yb8 rfl) (Gr.refl S3) ⟨none,none,rfl⟩ (fun i T g1=>rfl) (by rw [qlm];omega) ?_ ?_
    ·rintro x l T hx ⟨x0,x1,rfl⟩ gT
     obtain ⟨q,hq,rfl⟩:=List.mem_map.mp hx
     obtain ⟨q1,q2⟩:=q
     unfold kD
     simp only [zck,zcm,zcl,zba,List.length_cons,List.length_nil,qs0,qs1]
     refine ⟨by first|rfl|trivial,gT,⟨_,_,rfl⟩,?_⟩
     cases q1 with
     | none =>
      simp_all! only [zde,Option.isNone_none,if_true]
      first|exact ⟨(by first|rfl|trivial),gT⟩|exact ⟨gT⟩
     | some y =>
      obtain ⟨w,hw⟩:=zkf pm (hgo _ hq y rfl)
      have e5:L2.atI (od.map nD) (y:Int)=some (nD w):=atI_get (by rw [qgm,hw];rfl)
      simp_all! only [zde,Option.isNone_some,Bool.false_eq_true,if_false,zhy,zbh (gT.get hs3),e5]
      refine ⟨?_,gT⟩
      show nD w=nD (od.getD (y:Int).toNat 0)
      rw [Int.toNat_natCast,List.getD_eq_getElem?_getD,hw];rfl
    ·rintro T gT
     rw [ydg]
     simp only [zba,qs0,qs1]
     refine ⟨(by first|rfl|trivial),gT.trans ⟨_,rfl⟩,?_,?_⟩
     ·rw [qla,List.length_singleton,Nat.add_sub_cancel];exact zb9
     ·rw [qla,List.length_singleton,Nat.add_sub_cancel]
   rintro l S4 ⟨g4,hs4,rfl⟩
   rw [zbq,zb4,zbv]
   refine zj9 (zl (cs.map fun c=>oD (rn od c).1) (cs.map kD)) zpF (fun T=>Gr S4 T) (fun l=>∃x0 x1,l=[x0,x1]) (ydd rfl (zbh hs4)) (Gr.refl S4) ⟨none,none,rfl⟩ (fun i T g1=>zr9 (zmm (zbh (g1.get hs4))) rfl) (by rw [ziz];simp;omega) ?_ ?_
   ·rintro x l T hx ⟨x0,x1,rfl⟩ gT
    obtain ⟨j,hj,rfl⟩:=List.mem_iff_getElem.mp hx
    have hj2:=zr8 (cs.map fun c=>oD (rn od c).1) (cs.map kD) j
    rw [qge hj] at hj2
    obtain ⟨t,ht,hj2⟩:=bnd hj2.symm
    obtain ⟨q,hq,e⟩:=Option.map_eq_some_iff.mp hj2
    rw [qgm] at hq
    obtain ⟨q,_,rfl⟩:=Option.map_eq_some_iff.mp hq
    rw [←e]
    unfold kD
    simp only [zck,zcm,zcl,zba,List.length_cons,List.length_nil,qs0,qs1]
    refine ⟨by first|rfl|trivial,gT,⟨_,_,rfl⟩,?_⟩
    have s2:2<=sizeLine:=by omega
    simp_all! only [s2,true_and]
    first|exact ⟨(by first|rfl|trivial),gT⟩|exact gT
   ·rintro T gT
    rw [zsa]
    simp only [zcb,zdv,zdd,zdc]
    have g9:Gr S3 (T++[.lst ((cs.map (rn od)).map kD)]):=(g4.trans gT).trans ⟨_,rfl⟩
    have e5:L2.atI (od.map nD) (i:Int)=some (nD k):=atI_get (by rw [qgm,hk];rfl)
    have hm9:=g9.get hm3
    have hs9:=g9.get hs3
    simp only [zeg,zcu,zan,qg0,qg1,zcd,zen,zbh hs9,e5,zdc]
    refine ⟨_,yc6 hm9 (by rw [hrl];exact hkl),.inl ⟨(by first|exact .inl rfl|exact .inl trivial|trivial),(p3.gr g9).setN m3,(f3.trans (Fn.gr g9)).setN hm,zd5 hs9 mn,rs.set k (roD (cs.map (rn od))),by rw [List.length_set];exact hrl,fun j k2 ds hj hds hk2=>?_,zgc hm9,_,_,_,rfl⟩⟩
    rcases Nat.lt_or_ge j i with z|z
    ·have hne:k≠k2:=fun e=>by subst e;have:=zms pm hk hk2;omega
     rw [List.getElem?_set_ne hne]
     exact hr j k2 ds z hds hk2
    ·have:j=i:=by omega
     subst this
     rw [hcs] at hds;cases hds
     rw [hk] at hk2;cases hk2
     rw [List.getElem?_set_self (by rw [hrl];exact hkl)]
  ·rintro l' S' ⟨p3,f3,_,rs,hrl,hr,hm3,rest⟩
   rw [zrc,qlm] at hr
   exact ⟨rfl,p3,f3,rs,hrl,fun j k cs h1 h2=>hr j k cs (qme h1).1 h1 h2,hm3,rest⟩
 rintro l S3 ⟨p3,f3,rs,hrl,hr,hm3,x4,x5,x6,rfl⟩
 rw [←hM]
 simp! only [zbh hm3]
 refine ⟨by omega,od,(List.range g.length).map fun k=>((g[od.idxOf k]?).getD []).map (rn od),?_,⟨pm,od0,by simp,fun i j cs h1 h2=>?_⟩,p3,f3⟩
 ·unfold mD
  congr 4
  apply List.ext_getElem?
  intro k
  rw [qgm,qgm]
  rcases Nat.lt_or_ge k g.length with z|z
  ·obtain ⟨i,hi,e⟩:=zsb pm z
   have ix:od.idxOf k=i:=by
    have hm:k∈od:=qmg e
    have h1:=List.idxOf_lt_length_of_mem hm
    have h2:od[od.idxOf k]? = some k:=by rw [qge h1,List.getElem_idxOf h1]
    exact zms pm h2 e
   rw [hr i k _ (qge hi) e,List.getElem?_range z]
   show _=some (roD (((g[od.idxOf k]?).getD []).map (rn od)))
   rw [ix,qge hi];rfl
  ·rw [List.getElem?_eq_none (by omega),List.getElem?_eq_none (by simpa using z)];rfl
 ·have hj:=zmt pm h2
  rw [qgm,List.getElem?_range hj]
  have ix:od.idxOf j=i:=by
   have hm:j∈od:=qmg h2
   have h1:=List.idxOf_lt_length_of_mem hm
   have h3:od[od.idxOf j]? = some j:=by rw [qge h1,List.getElem_idxOf h1]
   exact zms pm h3 h2
  show some (((g[od.idxOf j]?).getD []).map (rn od))=_
  rw [ix,h1];rfl
structure Cp (many k:Nat) (c d:Cl):Prop where
 go:∀x,c.1=some x->∃y,y<k/\d.1=some (x+many*y)
 an:∀v,c.2=some v->d.2=some v
 lt:∀x,d.1=some x->x<many*k
noncomputable def CpR (many k:Nat) (cs ds:List Cl):Prop:=ds.length=cs.length/\∀(a:Nat) c,cs[a]? = some c->∃d,ds[a]? = some d/\Cp many k c d
structure Cpy (g:List (List Cl)) (k:Nat) (g2:List (List Cl)):Prop where
 k1:1<=k
 len:g2.length=g.length*k
 at_:∀(i:Nat) ds,g2[i]? = some ds->∃cs,g[i % g.length]? = some cs/\CpR g.length k cs ds
theorem Cpy.ok {A k:Nat}{g g2:List (List Cl)}(h:Cpy g k g2) (ok:OkM A g) (h24:g.length*k<=24):OkM A g2:=by
 have r1:=ok.r1
 have k1:=h.k1
 have:1<=g.length*k:=Nat.mul_pos r1 k1
 refine ⟨ok.a1,ok.a4,by rw [h.len];exact this,by rw [h.len];exact h24,fun ds hd=>?_,fun ds hd d hd2 x hx=>?_⟩
 ·obtain ⟨i,hi,rfl⟩:=List.mem_iff_getElem.mp hd
  obtain ⟨cs,h1,h2⟩:=h.at_ i _ (qge hi)
  rw [h2.1];exact ok.len cs (qmg h1)
 ·obtain ⟨i,hi,rfl⟩:=List.mem_iff_getElem.mp hd
  obtain ⟨cs,h1,h2⟩:=h.at_ i _ (qge hi)
  obtain ⟨a,ha,rfl⟩:=List.mem_iff_getElem.mp hd2
  obtain ⟨e,he,q⟩:=h2.2 a _ (qge (by rw [←h2.1];exact ha))
  rw [qge ha] at he
  cases he
  rw [h.len];exact q.lt x hx
inductive OtP (ns:List Int) (c A:Nat) (g:List (List Cl)) (S:Sto) (v:D) (S':Sto):Prop
 | mk (k:Nat) (g2:List (List Cl)) (od:List Nat) (g3:List (List Cl)) (e:v=mD A g3) (k2:k<=2) (h24:g.length*k<=24) (h:Cpy g k g2) (hn:Nmd od g2 g3) (p:PQ ns (c+500) S') (f:Fn S S')
theorem ydj {ns:List Int}{c A:Nat}{g:List (List Cl)}{S:Sto}(h:PQ ns c S) (hc:c<70000000) (ok:OkM A g):Wo (zga [.ref 2,mD A g] S) (OtP ns c A g S):=by
 have sz:=zcv
 have l3:=h.lt
 have r1:=ok.r1
 have r24:=ok.r24
 have a4:=ok.a4
 have a1:=ok.a1
 unfold zga zry mD
 simp only [zbg,List.map_cons,List.map_nil,List.length_cons,List.length_nil,Nat.reduceAdd,Nat.reduceSub,List.replicate,List.cons_append,List.nil_append]
 generalize hM:D.tup [.int (A:Int),.tup (g.map roD)]=dM
 refine zax (fun l S'=>PQ ns (c+1) S'/\Fn S S'/\∃k:Nat,1<=k/\k<=2/\g.length*k<=24/\l=[some (.ref 2),some dM,some (.int (k:Int)),none,none,none,none,none,none,none]) ?_ ?_
 ·rw [zbq,zcu]
  simp only [zda,zb4,zbv,zcb,zef,zcu,zan,qg0,qg1,zcd]
  refine (zbo h (by omega) (by decide) (by decide)).mono ?_
  rintro v S1 ⟨d,rfl,hd,p1,f1⟩
  have e13:∀Q',Wo (zaj dM (.int 1) S1) Q' = Q' (.tup (g.map roD)) S1:=fun Q'=>by rw [←hM,zem];exact zdc
  simp_all! only [e13,qlm]
  by_cases hd1:d=1
  ·subst hd1
   by_cases hg:(g.length:Int)<13
   ·simp only [Int.cast_ofNat_Int,decide_true,if_true,hg]
    first|exact ⟨(by first|rfl|trivial),p1,f1,2,by omega,by omega,by omega,rfl⟩|exact ⟨p1,f1,2,by omega,by omega,by omega,rfl⟩
   ·simp only [Int.cast_ofNat_Int,decide_true,if_true,hg,decide_false]
    first|exact ⟨(by first|rfl|trivial),p1,f1,1,by omega,by omega,by omega,rfl⟩|exact ⟨p1,f1,1,by omega,by omega,by omega,rfl⟩
  ·have hd2:¬(d:Int)=1:=by omega
   simp only [hd2,decide_false,Bool.false_eq_true,if_false]
   first|exact ⟨(by first|rfl|trivial),p1,f1,1,by omega,by omega,by omega,rfl⟩|exact ⟨p1,f1,1,by omega,by omega,by omega,rfl⟩
 rintro l S1 ⟨p1,f1,k,k1,k2,k24,rfl⟩
 refine zax (fun l S'=>PQ ns (c+2) S'/\Fn S S'/\∃fi:Int,l=[some (.ref 2),some dM,some (.int (k:Int)),some (.int fi),none,none,none,none,none,none]) ?_ ?_
 ·simp! only [zan]
  refine ⟨by omega,?_⟩
  refine (zbo p1 (by omega) (by decide) (by decide)).mono ?_
  rintro v S2 ⟨d,rfl,hd,p2,f2⟩
  obtain ⟨x,hx,_⟩:=zmr (a:=0) (b:=3) (c:=6) (d:=8) d hd
  simp! only [hx]
  first|exact ⟨(by first|rfl|trivial),p2,f1.trans f2,x,rfl⟩|exact ⟨p2,f1.trans f2,x,rfl⟩
 rintro l S2 ⟨p2,f2,fi,rfl⟩
 refine za0 (l':=[some (.ref 2),some dM,some (.int (k:Int)),some (.int fi),some (.int (g.length:Int)),none,none,none,none,none]) (S':=S2) ?_ ?_
 ·rw [←hM]
  simp! only [qlm]
  first|exact ⟨(by first|rfl|trivial),(by first|rfl|trivial),(by first|rfl|trivial)⟩|exact ⟨(by first|rfl|trivial),(by first|rfl|trivial)⟩
 have l2:=p2.lt
 have fl2:=f2.len l2
 refine za0 (l':=[some (.ref 2),some dM,some (.int (k:Int)),some (.int fi),some (.int (g.length:Int)),some (.ref S2.length),none,none,none,none]) (S':=S2++[.lst []]) (by simp! only [zan];exact ⟨by omega,(by first|rfl|trivial),(by first|rfl|trivial),(by first|rfl|trivial)⟩) ?_
 have hmul:((g.length:Nat):Int)*((k:Nat):Int)=((g.length*k:Nat):Int):=by simp
 refine zax (fun l S'=>PQ ns (c+2+16*(g.length*k)) S'/\Fn S S'/\∃(gs:List (List Cl)) (x6 x7 x8 x9:Option D),gs.length=g.length*k/\(∀(i:Nat) ds,gs[i]? = some ds->∃cs,g[i % g.length]? = some cs/\CpR g.length k cs ds)/\S'[S2.length]? = some (.lst (gs.map roD))/\l=[some (.ref 2),some dM,some (.int (k:Int)),some (.int fi),some (.int (g.length:Int)),some (.ref S2.length),x6,x7,x8,x9]) ?_ ?_
 ·have ha0:zac (eOp zc1 (zaa 4) (zaa 2)) zae [some (.ref 2),some dM,some (.int (k:Int)),some (.int fi),some (.int (g.length:Int)),some (.ref S2.length),none,none,none,none] (S2++[.lst []])=some ([.int ((g.length*k:Nat):Int)],S2++[.lst []]):=by
   have:Wa (zac (eOp zc1 (zaa 4) (zaa 2)) zae) [some (.ref 2),some dM,some (.int (k:Int)),some (.int fi),some (.int (g.length:Int)),some (.ref S2.length),none,none,none,none] (S2++[.lst []]) fun vs S'=>vs=[.int ((g.length*k:Nat):Int)]/\S' = S2++[.lst []]:=by
    have f1:(-(2 ^ 64)<((g.length:Nat):Int)/\((g.length:Nat):Int)<2 ^ 64):=by omega
    simp_all! only [f1,true_or,true_and,hmul]
    all_goals first|trivial|exact ⟨(by first|rfl|trivial),(by first|rfl|trivial)⟩
   obtain ⟨xs,S',e,rfl,rfl⟩:=this
   exact e
  refine zkb (fun i l S'=>PQ ns (c+2+16*i) S'/\Fn S S'/\∃(gs:List (List Cl)) (x6 x7 x8 x9:Option D),gs.length=i/\(∀(i:Nat) ds,gs[i]? = some ds->∃cs,g[i % g.length]? = some cs/\CpR g.length k cs ds)/\S'[S2.length]? = some (.lst (gs.map roD))/\l=[some (.ref 2),some dM,some (.int (k:Int)),some (.int fi),some (.int (g.length:Int)),some (.ref S2.length),x6,x7,x8,x9]) (fun _ _=>False) (n:=g.length*k) ha0 (by omega) ⟨p2.gr ⟨_,rfl⟩,f2.trans (Fn.gr ⟨_,rfl⟩),[],_,_,_,_,rfl,fun i ds hd=>(by simp at hd),zb9,rfl⟩ ?_ ?_ (fun d l' S' z=>z.elim)
  ·rintro i l S3 hi ⟨p3,f3,gs,x6,x7,x8,x9,hgl,hgs,hs3,rfl⟩
   have l33:=p3.lt
   have fl3:=f3.len l33
   have n3:=(qme hs3).1
   simp only [zba,qs0,qs1]
   refine za0 (l':=[some (.ref 2),some dM,some (.int (k:Int)),some (.int fi),some (.int (g.length:Int)),some (.ref S2.length),some (.int (i:Int)),some (.ref S3.length),x8,x9]) (S':=S3++[.lst []]) (by simp! only [zan];exact ⟨by omega,(by first|rfl|trivial),(by first|rfl|trivial),(by first|rfl|trivial)⟩) ?_
   have him:i % g.length<g.length:=Nat.mod_lt _ r1
   obtain ⟨cs,hcs⟩:∃cs,g[i % g.length]? = some cs:=⟨_,qge him⟩
   have hcl:=ok.len cs (qmg hcs)
   have hgo:=ok.go cs (qmg hcs)
   refine zax (fun l S'=>PQ ns (c+2+16*i+16) S'/\Fn S S'/\S'[S2.length]? = some (.lst (gs.map roD))/\∃(ds:List Cl) (x8 x9:Option D),CpR g.length k cs ds/\S'[S3.length]? = some (.lst (ds.map kD))/\l=[some (.ref 2),some dM,some (.int (k:Int)),some (.int fi),some (.int (g.length:Int)),some (.ref S2.length),some (.int (i:Int)),some (.ref S3.length),x8,x9]) ?_ ?_
   ·have he:eOp zaj (eOp zaj (zaa 1) (eC (.int 1))) (eOp zcq (zaa 6) (zaa 4)) [some (.ref 2),some dM,some (.int (k:Int)),some (.int fi),some (.int (g.length:Int)),some (.ref S2.length),some (.int (i:Int)),some (.ref S3.length),x8,x9] (S3++[.lst []])=some (.tup (cs.map kD),S3++[.lst []]):=by
     have:We (eOp zaj (eOp zaj (zaa 1) (eC (.int 1))) (eOp zcq (zaa 6) (zaa 4))) [some (.ref 2),some dM,some (.int (k:Int)),some (.int fi),some (.int (g.length:Int)),some (.ref S2.length),some (.int (i:Int)),some (.ref S3.length),x8,x9] (S3++[.lst []]) fun v S'=>v=.tup (cs.map kD)/\S' = S3++[.lst []]:=by
      have g0:(0:Int)<((g.length:Nat):Int):=by omega
      have e1:L2.atI (g.map roD) ((i:Int) % (g.length:Int))=some (.tup (cs.map kD)):=by
       rw [show (i:Int) % (g.length:Int)=((i % g.length:Nat):Int) by omega]
       exact atI_get (by rw [qgm,hcs];rfl)
      rw [←hM]
      simp_all! only [g0,e1,decide_true,true_and]
      all_goals first|trivial|exact ⟨(by first|rfl|trivial),(by first|rfl|trivial)⟩
     obtain ⟨v,S',e,rfl,rfl⟩:=this
     exact e
    refine zrh (cs.map kD) (fun j l S'=>PQ ns (c+2+16*i+4*j) S'/\Fn S S'/\S'[S2.length]? = some (.lst (gs.map roD))/\∃(ds:List Cl) (x8 x9:Option D),ds.length=j/\(∀(a:Nat) c,a<j->cs[a]? = some c->∃d,ds[a]? = some d/\Cp g.length k c d)/\S'[S3.length]? = some (.lst (ds.map kD))/\l=[some (.ref 2),some dM,some (.int (k:Int)),some (.int fi),some (.int (g.length:Int)),some (.ref S2.length),some (.int (i:Int)),some (.ref S3.length),x8,x9]) (fun _ _=>False) he ⟨p3.gr ⟨_,rfl⟩,f3.trans (Fn.gr ⟨_,rfl⟩),zf8 hs3,[],_,_,rfl,fun a c ha=>absurd ha (Nat.not_lt_zero _),zb9,rfl⟩ ?_ ?_ (fun d l' S' z=>z.elim)
    ·rintro j x l S4 hx ⟨p4,f4,hs4,ds,y8,y9,hdl,hds,hd4,rfl⟩
     rw [qgm] at hx
     obtain ⟨q,hq,rfl⟩:=Option.map_eq_some_iff.mp hx
     have hj:j<cs.length:=(qme hq).1
     have hqg:=hgo q (qmg hq)
     unfold kD
     simp only [zck,zcm,zcl,zba,List.length_cons,List.length_nil,qs0,qs1]
     refine ⟨by first|rfl|trivial,?_⟩
     refine zax (fun l S'=>PQ ns (c+2+16*i+4*j+2) S'/\Fn S S'/\S'[S2.length]? = some (.lst (gs.map roD))/\S'[S3.length]? = some (.lst (ds.map kD))/\∃o:Option Nat,(∀x,q.1=some x->∃y,y<k/\o=some (x+g.length*y))/\(∀x,o=some x->x<g.length*k)/\l=[some (.ref 2),some dM,some (.int (k:Int)),some (.int fi),some (.int (g.length:Int)),some (.ref S2.length),some (.int (i:Int)),some (.ref S3.length),some (oD o),some (oD q.2)]) ?_ ?_
     ·cases hq1:q.1 with
      | some x =>
       simp! only [zde,Option.isNone_some,Bool.not_false,if_true]
       refine (zbo p4 (by omega) (by omega) (by omega)).mono ?_
       rintro v S5 ⟨d,rfl,hd,p5,f5⟩
       have g0:(-(2 ^ 64)<((g.length:Nat):Int)/\((g.length:Nat):Int)<2 ^ 64):=by omega
       have hxl:=hqg x hq1
       simp! only [zhy,g0,true_or,true_and]
       have hb:x+g.length*d<g.length*k:=by
        have:g.length*(d+1)<=g.length*k:=Nat.mul_le_mul_left _ (by omega)
        rw [Nat.mul_add,Nat.mul_one] at this
        omega
       first|refine ⟨(by first|rfl|trivial),p5.mono (by omega),f4.trans f5,f5 _ _ (by omega) hs4,f5 _ _ (by omega) hd4,some (x+g.length*d),fun z hz=>?_,fun z hz=>by cases hz;exact hb,?_⟩|refine ⟨p5.mono (by omega),f4.trans f5,f5 _ _ (by omega) hs4,f5 _ _ (by omega) hd4,some (x+g.length*d),fun z hz=>?_,fun z hz=>by cases hz;exact hb,?_⟩
       ·cases hz;exact ⟨d,by omega,rfl⟩
       ·rw [zhy,show ((x+g.length*d:Nat):Int)=(x:Int)+(g.length:Int)*(d:Int) by simp]
      | none =>
       simp! only [zde,Option.isNone_none,Bool.not_true,Bool.false_eq_true,if_false]
       refine (zbo p4 (by omega) (by omega) (by omega)).mono ?_
       rintro v S5 ⟨d,rfl,hd,p5,f5⟩
       have g0:(-(2 ^ 64)<((g.length:Nat):Int)/\((g.length:Nat):Int)<2 ^ 64):=by omega
       simp! only [zan]
       split
       ·simp only [g0,true_or,true_and,hmul]
        refine (zbo p5 (by omega) (by have:=Nat.mul_pos r1 k1;omega) (by omega)).mono ?_
        rintro v S6 ⟨e,rfl,he,p6,f6⟩
        first|exact ⟨(by first|rfl|trivial),p6,f4.trans (f5.trans f6),f6 _ _ (by omega) (f5 _ _ (by omega) hs4),f6 _ _ (by omega) (f5 _ _ (by omega) hd4),some e,(fun z hz=>by cases hz),(fun z hz=>by cases hz;omega),rfl⟩|exact ⟨p6,f4.trans (f5.trans f6),f6 _ _ (by omega) (f5 _ _ (by omega) hs4),f6 _ _ (by omega) (f5 _ _ (by omega) hd4),some e,(fun z hz=>by cases hz),(fun z hz=>by cases hz;omega),rfl⟩
       ·first|exact ⟨(by first|rfl|trivial),p5.mono (by omega),f4.trans f5,f5 _ _ (by omega) hs4,f5 _ _ (by omega) hd4,none,(fun z hz=>by cases hz),(fun z hz=>by cases hz),rfl⟩|exact ⟨p5.mono (by omega),f4.trans f5,f5 _ _ (by omega) hs4,f5 _ _ (by omega) hd4,none,(fun z hz=>by cases hz),(fun z hz=>by cases hz),rfl⟩
     rintro l S5 ⟨p5,f5,hs5,hd5,o,ho1,ho2,rfl⟩
     refine zax (fun l S'=>PQ ns (c+2+16*i+4*j+4) S'/\Fn S S'/\S'[S2.length]? = some (.lst (gs.map roD))/\S'[S3.length]? = some (.lst (ds.map kD))/\∃w:Option Nat,(∀v,q.2=some v->w=some v)/\l=[some (.ref 2),some dM,some (.int (k:Int)),some (.int fi),some (.int (g.length:Int)),some (.ref S2.length),some (.int (i:Int)),some (.ref S3.length),some (oD o),some (oD w)]) ?_ ?_
     ·cases hq2:q.2 with
      | some x =>
       simp! only [zde,Option.isNone_some,Bool.false_eq_true,if_false]
       first|exact ⟨(by first|rfl|trivial),p5.mono (by omega),f5,hs5,hd5,some x,fun v hv=>hv,rfl⟩|exact ⟨p5.mono (by omega),f5,hs5,hd5,some x,fun v hv=>hv,rfl⟩
      | none =>
       simp! only [zde,Option.isNone_none,if_true]
       refine (zbo p5 (by omega) (by omega) (by omega)).mono ?_
       rintro v S6 ⟨d,rfl,hd,p6,f6⟩
       simp! only [zan]
       split
       ·refine (zbo p6 (by omega) (by omega) (by omega)).mono ?_
        rintro v S7 ⟨e,rfl,he,p7,f7⟩
        first|exact ⟨(by first|rfl|trivial),p7,f5.trans (f6.trans f7),f7 _ _ (by omega) (f6 _ _ (by omega) hs5),f7 _ _ (by omega) (f6 _ _ (by omega) hd5),some e,(fun v hv=>by cases hv),rfl⟩|exact ⟨p7,f5.trans (f6.trans f7),f7 _ _ (by omega) (f6 _ _ (by omega) hs5),f7 _ _ (by omega) (f6 _ _ (by omega) hd5),some e,(fun v hv=>by cases hv),rfl⟩
       ·first|exact ⟨(by first|rfl|trivial),p6.mono (by omega),f5.trans f6,f6 _ _ (by omega) hs5,f6 _ _ (by omega) hd5,none,(fun v hv=>by cases hv),rfl⟩|exact ⟨p6.mono (by omega),f5.trans f6,f6 _ _ (by omega) hs5,f6 _ _ (by omega) hd5,none,(fun v hv=>by cases hv),rfl⟩
     rintro l S6 ⟨p6,f6,hs6,hd6,w,hw,rfl⟩
     rw [zcj,zci]
     simp_all! only [zf9 hd6,zgd,true_and]
     refine ⟨by omega,?_⟩
     rw [zhq hd6 (by rw [qlm];omega)]
     refine .inl ⟨(by first|exact .inl rfl|exact .inl trivial|trivial),(p6.setN l33).mono (by omega),f6.setN fl3,zd5 hs6 (by omega),ds++[(o,w)],_,_,by simp [hdl],fun a c ha hac=>?_,by rw [zgc hd6];simp [kD],rfl⟩
     rcases Nat.lt_or_ge a j with z|z
     ·obtain ⟨d,hd,hcp⟩:=hds a c z hac
      exact ⟨d,BF.get_left hd,hcp⟩
     ·have:a=j:=by omega
      subst this
      rw [hq] at hac;cases hac
      refine ⟨(o,w),?_,ho1,hw,ho2⟩
      rw [←hdl];exact List.getElem?_concat_length
    ·rintro l' S' ⟨p4,f4,hs4,ds,y8,y9,hdl,hds,hd4,rfl⟩
     rw [qlm] at hdl hds p4
     refine ⟨rfl,p4.mono (by omega),f4,hs4,ds,_,_,⟨hdl,fun a c hac=>hds a c (qme hac).1 hac⟩,hd4,rfl⟩
   rintro l S4 ⟨p4,f4,hs4,ds,y8,y9,hcp,hd4,rfl⟩
   rw [zcj,zci]
   simp_all! only [zf9 hs4,zbh hd4,zgd,true_and]
   rw [zhq hs4 (by rw [qlm];omega)]
   refine .inl ⟨(by first|exact .inl rfl|exact .inl trivial|trivial),(p4.setN (by omega)).mono (by omega),f4.setN fl2,gs++[ds],_,_,_,_,by simp [hgl],fun a es ha=>?_,by rw [zgc hs4];simp [roD],rfl⟩
   rcases BF.get_snoc ha with z|⟨rfl,rfl⟩
   ·exact hgs a es z
   ·rw [hgl];exact ⟨cs,hcs,hcp⟩
  ·rintro l' S' ⟨p3,f3,rest⟩
   exact ⟨rfl,p3,f3,rest⟩
 rintro l S3 ⟨p3,f3,gs,x6,x7,x8,x9,hgl,hgs,hs3,rfl⟩
 have cpy:Cpy g k gs:=⟨k1,hgl,hgs⟩
 have ok2:=cpy.ok ok k24
 rw [zdl,zb4,zbv]
 rw [←hM]
 simp_all! only [zbh hs3]
 refine ⟨by omega,?_⟩
 refine Wo.mono (ydi p3 (by omega) ok2) ?_
 rintro v S4 ⟨od,g',rfl,hn,p4,f4⟩
 exact ⟨k,gs,od,g',rfl,k2,k24,cpy,hn,p4.mono (by omega),f3.trans f4⟩
noncomputable def zb6 (x y:Option Nat):Option BF.P:=x.bind fun i=>y.bind fun j=>some (i,j)
noncomputable def lak (c d:Cl):Bool:=(c.2.isSome && decide (d.2≠c.2)) || (c.1.isSome && d.1.isNone)
theorem ydk (c d:Cl) (S:Sto):∃v,zgx [kD c,kD d] S=some (v,S)/\zch v = !lak c d:=by
 obtain ⟨c1,c2⟩:=c
 obtain ⟨d1,d2⟩:=d
 have:Wo (zgx [kD (c1,c2),kD (d1,d2)] S) fun v S'=>zch v=(!lak (c1,c2) (d1,d2))/\S' = S:=by
  cases c2 with
  | none=>cases c1 with
   | none=>exact ⟨_,_,rfl,rfl,rfl⟩
   | some i=>cases d1 <;> exact ⟨_,_,rfl,rfl,rfl⟩
  | some k =>
   cases d2 with
   | none=>exact ⟨_,_,rfl,rfl,rfl⟩
   | some e =>
    unfold zgx zrj kD
    simp only [zbg,List.map_cons,List.map_nil,List.length_cons,List.length_nil,Nat.reduceAdd,Nat.reduceSub,List.replicate,List.cons_append,List.nil_append]
    by_cases he:e=k
    ·subst he
     cases c1 with
     | none=>simp [zbg,zdt,ze7,ze2,zcu,ze1,zan,zda,zbq,zdl,zcj,zf4,zf5,zba,zeg,zck,zcl,zcm,zb4,zci,zbv,zcb,zee,ze3,ze4,zef,ze5,ze6,ze8,ze9,zdy,zdz,zd3,zd0,zd1,zd2,zd4,zfq,zfm,zeh,zei,zem,zen,zej,zek,zeo,zfn,zfa,zdu,zel,zdv,zfb,zfo,zfc,zfp,zfd,zfe,List.map_cons,List.map_nil,List.length_cons,List.length_nil,Nat.reduceAdd,Nat.reduceSub,List.replicate,List.cons_append,List.nil_append,qg0,qg1,qs0,qs1,zcd,zdc,zfg,zfj,zfk,zfl,zfh,zfi,zdd,decide_eq_true_eq,zfs,zfr,zde,oD,lak,zch]
     | some i=>cases d1 <;> simp [zbg,zdt,ze7,ze2,zcu,ze1,zan,zda,zbq,zdl,zcj,zf4,zf5,zba,zeg,zck,zcl,zcm,zb4,zci,zbv,zcb,zee,ze3,ze4,zef,ze5,ze6,ze8,ze9,zdy,zdz,zd3,zd0,zd1,zd2,zd4,zfq,zfm,zeh,zei,zem,zen,zej,zek,zeo,zfn,zfa,zdu,zel,zdv,zfb,zfo,zfc,zfp,zfd,zfe,List.map_cons,List.map_nil,List.length_cons,List.length_nil,Nat.reduceAdd,Nat.reduceSub,List.replicate,List.cons_append,List.nil_append,qg0,qg1,qs0,qs1,zcd,zdc,zfg,zfj,zfk,zfl,zfh,zfi,zdd,decide_eq_true_eq,zfs,zfr,zde,oD,lak,zch]
    ·have he2:¬(e:Int)=(k:Int):=by omega
     cases c1 <;> simp [zbg,zdt,ze7,ze2,zcu,ze1,zan,zda,zbq,zdl,zcj,zf4,zf5,zba,zeg,zck,zcl,zcm,zb4,zci,zbv,zcb,zee,ze3,ze4,zef,ze5,ze6,ze8,ze9,zdy,zdz,zd3,zd0,zd1,zd2,zd4,zfq,zfm,zeh,zei,zem,zen,zej,zek,zeo,zfn,zfa,zdu,zel,zdv,zfb,zfo,zfc,zfp,zfd,zfe,List.map_cons,List.map_nil,List.length_cons,List.length_nil,Nat.reduceAdd,Nat.reduceSub,List.replicate,List.cons_append,List.nil_append,qg0,qg1,qs0,qs1,zcd,zdc,zfg,zfj,zfk,zfl,zfh,zfi,zdd,decide_eq_true_eq,zfs,zfr,zde,oD,lak,zch,he,he2]
 obtain ⟨v,S',e,h,rfl⟩:=this
 exact ⟨v,e,h⟩
theorem ydl (c d:Cl) (S:Sto):zft [kD c,kD d] S=some (.bl (lak c d),S):=by
 obtain ⟨v,e,h⟩:=ydk c d S
 have:Wo (zft [kD c,kD d] S) fun v S'=>v=.bl (lak c d)/\S' = S:=by
  unfold zft zrk
  simp only [zbg,List.map_cons,List.map_nil,List.length_cons,List.length_nil,Nat.reduceAdd,Nat.reduceSub,List.replicate,List.cons_append,List.nil_append]
  simp! only [zan]
  refine ⟨_,_,e,?_⟩
  dsimp only
  rw [h]
  simp only [Bool.not_not]
  first|exact ⟨(by first|rfl|trivial),(by first|rfl|trivial)⟩|exact ⟨(by first|rfl|trivial)⟩
 obtain ⟨v,S',e,rfl,rfl⟩:=this
 exact e
noncomputable def pD (p:BF.P):D:=.tup [.int (p.1:Int),.int (p.2:Int)]
noncomputable def wD (w:List Nat):D:=.tup (w.map fun (a:Nat)=>D.int (a:Int))
noncomputable def orD:Option (List Nat)->D
 | none=>.non
 | some w=>wD w
noncomputable def pI (p:BF.P):List Int:=[(p.1:Int),(p.2:Int)]
theorem ydm {p q:BF.P}(h:pI p=pI q):p=q:=by
 unfold pI at h
 simp at h
 exact Prod.ext (by omega) (by omega)
theorem pI_mem {p:BF.P}{ps:List BF.P}:pI p∈ps.map pI↔p∈ps:=by
 constructor
 ·intro h
  obtain ⟨q,hq,e⟩:=List.mem_map.mp h
  rw [←ydm e];exact hq
 ·exact fun h=>List.mem_map.mpr ⟨p,h,rfl⟩
theorem ydn {x y:Option Nat}{neg:Bool}{S:Sto}{Q:D->Sto->Prop}:Wo (dIn neg .non (.tup [oD x,oD y]) S) Q=Q (.bl (if neg then (zb6 x y).isSome else !(zb6 x y).isSome)) S:=by
 have:dIn neg .non (.tup [oD x,oD y]) S=some (.bl (if neg then (zb6 x y).isSome else !(zb6 x y).isSome),S):=by
  cases x <;> cases y <;> cases neg <;> rfl
 rw [this];exact zbe
theorem zsc {x y:Option Nat}{p:BF.P}(h:zb6 x y=some p):D.tup [oD x,oD y]=pD p:=by
 unfold zb6 at h
 obtain ⟨i,h1,h⟩:=bnd h
 obtain ⟨j,h2,h⟩:=bnd h
 cases h;subst h1 h2;rfl
noncomputable def nx2 (rs rs2:List (List Cl)) (p:BF.P) (a:Nat):Option BF.P:=zb6 (cell rs p.1 a).1 (cell rs2 p.2 a).1
noncomputable def fl2 (rs rs2:List (List Cl)) (p:BF.P) (a:Nat):Bool:=lak (cell rs p.1 a) (cell rs2 p.2 a)
noncomputable def Wk (asks:Nat) (rs rs2:List (List Cl)) (p:BF.P) (r:Option (List Nat)) (S1:Sto) (n:Nat):Prop:=match r with
 | some w=>BF.Least asks (nx2 rs rs2) (fl2 rs rs2) p w/\w.length<=600
 | none=>(∀w,¬BF.Fails asks (nx2 rs rs2) (fl2 rs rs2) p w)/\∃ps ws,S1[n]? = some (.lst (ps.map pD))/\BF.Bf asks (nx2 rs rs2) (fl2 rs rs2) p ps ws ps.length 0
inductive WB (asks:Nat) (rs rs2:List (List Cl)) (p:BF.P) (S:Sto) (d:D) (S1:Sto):Prop
 | mk (g:Gr S S1) (r:Option (List Nat)) (n:Nat) (e:d=.tup [orD r,.ref n]) (w:Wk asks rs rs2 p r S1 n)
theorem zsd {asks:Nat}{rs rs2:List (List Cl)}(h:OkM asks rs) (h':OkM asks rs2) {p q:BF.P}{a:Nat}(hp:p.1<rs.length/\p.2<rs2.length) (ha:a<asks) (e:nx2 rs rs2 p a=some q):q.1<rs.length/\q.2<rs2.length:=by
 unfold nx2 zb6 at e
 obtain ⟨i,h1,e⟩:=bnd e
 obtain ⟨j,h2,e⟩:=bnd e
 cases e
 exact ⟨ziy h hp.1 ha h1,ziy h' hp.2 ha h2⟩
theorem zse (w:List Nat) (a:Nat):D.tup ((w.map fun (a:Nat)=>D.int (a:Int))++[.int (a:Int)])=wD (w++[a]):=by unfold wD;rw [List.map_append];rfl
theorem zsf (p:BF.P):zcc [.int (p.1:Int),.int (p.2:Int)]=some (pI p):=rfl
structure Wst (asks:Nat) (rs rs2:List (List Cl)) (p0:BF.P) (S S1:Sto) (ps:List BF.P) (ws:List (List Nat)) (i c:Nat):Prop where
 b:BF.Bf asks (nx2 rs rs2) (fl2 rs rs2) p0 ps ws i c
 inn:∀p∈ps,p.1<rs.length/\p.2<rs2.length
 ln:∀(k:Nat) w,ws[k]? = some w->w.length<=k
 g:Gr S S1
 s0:S1[S.length]? = some (.lst (ps.map pD))
 s1:S1[S.length+1]? = some (.lst (ws.map wD))
 s2:S1[S.length+2]? = some (.tset (ps.map pI))
theorem Wst.few {asks:Nat}{rs rs2:List (List Cl)}{p0:BF.P}{S S1:Sto}{ps:List BF.P}{ws:List (List Nat)}{i c:Nat}(w:Wst asks rs rs2 p0 S S1 ps ws i c) (h:OkM asks rs) (h':OkM asks rs2):ps.length<=576:=by
 have h1:=BF.few2 ps w.b.nd w.inn
 have h2:rs.length*rs2.length<=24*24:=Nat.mul_le_mul h.r24 h'.r24
 omega
theorem Wst.put {asks:Nat}{rs rs2:List (List Cl)}{p0 q q':BF.P}{S S1:Sto}{ps:List BF.P}{ws:List (List Nat)}{u:List Nat}{i c:Nat}(w:Wst asks rs rs2 p0 S S1 ps ws i c) (h:OkM asks rs) (h':OkM asks rs2) (hc:c<asks) (hq:ps[i]? = some q) (hw:ws[i]? = some u) (hf:fl2 rs rs2 q c=false) (hs:nx2 rs rs2 q c=some q') (hn:q' ∉ ps) :
  Wst asks rs rs2 p0 S (((S1.set (S.length+2) (.tset (ps.map pI++[pI q']))).set S.length (.lst (ps.map pD++[pD q']))).set (S.length+1) (.lst (ws.map wD++[wD (u++[c])]))) (ps++[q']) (ws++[u++[c]]) i (c+1):=by
 refine ⟨w.b.push hc hq hw hf hs hn,fun p hp=>?_,fun k v hv=>?_,((w.g.set (by omega) _).set (by omega) _).set (by omega) _,?_,?_,?_⟩
 ·rcases List.mem_append.mp hp with hp|hp
  ·exact w.inn p hp
  ·have:p=q':=by simpa using hp
   subst this
   exact zsd h h' (w.inn q (qmg hq)) hc hs
 ·rcases BF.get_snoc hv with hv|⟨rfl,rfl⟩
  ·exact w.ln k v hv
  ·have:=w.ln i u hw
   have:=(qme hw).1
   simp;omega
 ·rw [List.map_append]
  exact zd5 (zmn (zd5 w.s0 (by omega))) (by omega)
 ·rw [List.map_append]
  exact zmn (zd5 (zd5 w.s1 (by omega)) (by omega))
 ·rw [List.map_append]
  exact zd5 (zd5 (zmn w.s2) (by omega)) (by omega)
theorem ydo {asks:Nat}{rs rs2:List (List Cl)}{i j f:Nat}{S:Sto}(h:OkM asks rs) (h':OkM asks rs2) (hi:i<rs.length) (hj:j<rs2.length) (hf:S[f]? = some (.fnc "lacks")) :
  Wo (zhr [mD asks rs,mD asks rs2,pD (i,j),.ref f] S) (WB asks rs rs2 (i,j) S):=by
 have sz:=zcv
 unfold zhr zrl
 simp only [zbg,List.map_cons,List.map_nil,List.length_cons,List.length_nil,Nat.reduceAdd,Nat.reduceSub,List.replicate,List.cons_append,List.nil_append]
 generalize hM:mD asks rs=dM
 generalize hO:mD asks rs2=dO
 generalize hB:pD (i,j)=dB
 refine za0 (l':=[some dM,some dO,some dB,some (.ref f),some (.ref S.length),none,none,none,none,none,none,none,none,none,none]) (S':=S++[.lst [dB]]) ?_ ?_
 ·simp! only [zan]
  exact ⟨by omega,(by first|rfl|trivial),(by first|rfl|trivial),(by first|rfl|trivial)⟩
 refine za0 (l':=[some dM,some dO,some dB,some (.ref f),some (.ref S.length),some (.ref (S.length+1)),none,none,none,none,none,none,none,none,none]) (S':=S++[.lst [dB]]++[.lst [.tup []]]) ?_ ?_
 ·simp! only [qla]
  exact ⟨by omega,by omega,(by first|rfl|trivial),(by first|rfl|trivial),(by first|rfl|trivial)⟩
 refine za0 (l':=[some dM,some dO,some dB,some (.ref f),some (.ref S.length),some (.ref (S.length+1)),some (.ref (S.length+2)),none,none,none,none,none,none,none,none]) (S':=S++[.lst [dB]]++[.lst [.tup []]]++[.tset [pI (i,j)]]) ?_ ?_
 ·rw [zbq,ycg (ds:=[.int (i:Int),.int (j:Int)]) (k:=pI (i,j)) (by rw [←hB];rfl) rfl]
  simp! only [qla]
  first|exact ⟨(by first|rfl|trivial),(by first|rfl|trivial),(by first|rfl|trivial)⟩|exact ⟨(by first|rfl|trivial),(by first|rfl|trivial)⟩
 refine za0 (l':=[some dM,some dO,some dB,some (.ref f),some (.ref S.length),some (.ref (S.length+1)),some (.ref (S.length+2)),some (.int ((0:Nat):Int)),none,none,none,none,none,none,none]) (S':=S++[.lst [dB]]++[.lst [.tup []]]++[.tset [pI (i,j)]]) ?_ ?_
 ·simp! only [zan]
  first|exact ⟨(by first|rfl|trivial),(by first|rfl|trivial),(by first|rfl|trivial)⟩|exact ⟨(by first|rfl|trivial),(by first|rfl|trivial)⟩
 have w0:Wst asks rs rs2 (i,j) S (S++[.lst [dB]]++[.lst [.tup []]]++[.tset [pI (i,j)]]) [(i,j)] [[]] 0 0:=by
  refine ⟨.start _,fun p hp=>?_,fun k w hw=>?_,?_,?_,?_,?_⟩
  ·have:p=(i,j):=by simpa using hp
   subst this;exact ⟨hi,hj⟩
  ·cases k with
   | zero=>have:w=[]:=by simpa using hw.symm
           subst this;simp
   | succ k=>simp at hw
  ·exact ((Gr.refl S).push _).push _ |>.push _
  ·rw [←hB];exact zf8 (zf8 zb9)
  ·exact zf8 (by have:=@zb9 (S++[Ob.lst [dB]]) (.lst [.tup []]);rw [qla] at this;exact this)
  ·have:=@zb9 (S++[Ob.lst [dB]]++[Ob.lst [.tup []]]) (.tset [pI (i,j)]);rw [qla,qla] at this;exact this
 refine zgw (fun l S1=>∃ps ws x8 x9 x10 x11 x12 x13 x14 ii,l=[some dM,some dO,some dB,some (.ref f),some (.ref S.length),some (.ref (S.length+1)),some (.ref (S.length+2)),some (.int ((ii:Nat):Int)),x8,x9,x10,x11,x12,x13,x14]/\ii=ps.length/\Wst asks rs rs2 (i,j) S S1 ps ws ii 0) (WB asks rs rs2 (i,j) S) ?_ ?_ (fun d l1 S1 o=>o)
 ·refine ych (fun m l S1=>∃ps ws x8 x9 x10 x11 x12 x13 x14,∃ii:Nat,l=[some dM,some dO,some dB,some (.ref f),some (.ref S.length),some (.ref (S.length+1)),some (.ref (S.length+2)),some (.int (ii:Int)),x8,x9,x10,x11,x12,x13,x14]/\ii<=ps.length/\m+ii=600/\Wst asks rs rs2 (i,j) S S1 ps ws ii 0) (WB asks rs rs2 (i,j) S) (fun l S1=>∃ps ws x8 x9 x10 x11 x12 x13 x14,∃ii:Nat,l=[some dM,some dO,some dB,some (.ref f),some (.ref S.length),some (.ref (S.length+1)),some (.ref (S.length+2)),some (.int (ii:Int)),x8,x9,x10,x11,x12,x13,x14]/\ii=ps.length/\Wst asks rs rs2 (i,j) S S1 ps ws ii 0) 600 (by decide) ⟨_,_,_,_,_,_,_,_,_,0,rfl,Nat.zero_le _,rfl,w0⟩ ?_ (fun l' S' q=>.inl ⟨rfl,q⟩) (fun d l' S' q=>.inr ⟨d,rfl,q⟩)
  rintro m l S1 ⟨ps,ws,x8,x9,x10,x11,x12,x13,x14,ii,rfl,hii,hm,w⟩
  have hfew:=w.few h h'
  simp_all! only [zkc w.s0,qlm]
  split
  ·rename_i hlt
   have hlt:ii<ps.length:=by omega
   have hwl:ii<ws.length:=by rw [w.b.len];exact hlt
   obtain ⟨q,hq⟩:∃q,ps[ii]? = some q:=⟨_,qge hlt⟩
   obtain ⟨u,hu⟩:∃u,ws[ii]? = some u:=⟨_,qge hwl⟩
   have hqi:=w.inn q (qmg hq)
   have e1:L2.atI (ps.map pD) (ii:Int)=some (.tup [.int (q.1:Int),.int (q.2:Int)]):=atI_get (by rw [qgm,hq];rfl)
   have e2:L2.atI (ws.map wD) (ii:Int)=some (wD u):=atI_get (by rw [qgm,hu];rfl)
   refine za0 (l':=[some dM,some dO,some dB,some (.ref f),some (.ref S.length),some (.ref (S.length+1)),some (.ref (S.length+2)),some (.int (ii:Int)),some (.int (q.1:Int)),some (.int (q.2:Int)),x10,x11,x12,x13,x14]) (S':=S1) ?_ ?_
   ·simp! only [zkc w.s0,e1,true_and]
    all_goals first|trivial|exact ⟨(by first|rfl|trivial),(by first|rfl|trivial)⟩
   refine za0 (l':=[some dM,some dO,some dB,some (.ref f),some (.ref S.length),some (.ref (S.length+1)),some (.ref (S.length+2)),some (.int (ii:Int)),some (.int (q.1:Int)),some (.int (q.2:Int)),some (wD u),x11,x12,x13,x14]) (S':=S1) ?_ ?_
   ·simp! only [zkc w.s1,e2,true_and]
    all_goals first|trivial|exact ⟨(by first|rfl|trivial),(by first|rfl|trivial)⟩
   refine za0 (l':=[some dM,some dO,some dB,some (.ref f),some (.ref S.length),some (.ref (S.length+1)),some (.ref (S.length+2)),some (.int ((ii+1:Nat):Int)),some (.int (q.1:Int)),some (.int (q.2:Int)),some (wD u),x11,x12,x13,x14]) (S':=S1) ?_ ?_
   ·simp! only [true_and]
    all_goals first|trivial|exact ⟨(by first|rfl|trivial),(by first|rfl|trivial)⟩
   have ha0:zac (eOp zaj (zaa 0) (eC (.int 0))) zae [some dM,some dO,some dB,some (.ref f),some (.ref S.length),some (.ref (S.length+1)),some (.ref (S.length+2)),some (.int ((ii+1:Nat):Int)),some (.int (q.1:Int)),some (.int (q.2:Int)),some (wD u),x11,x12,x13,x14] S1=some ([.int (asks:Int)],S1):=by rw [←hM];rfl
   refine zkb (fun c l S5=>∃ps ws y11 y12 y13 y14,l=[some dM,some dO,some dB,some (.ref f),some (.ref S.length),some (.ref (S.length+1)),some (.ref (S.length+2)),some (.int ((ii+1:Nat):Int)),some (.int (q.1:Int)),some (.int (q.2:Int)),some (wD u),y11,y12,y13,y14]/\ps[ii]? = some q/\ws[ii]? = some u/\Wst asks rs rs2 (i,j) S S5 ps ws ii c) (WB asks rs rs2 (i,j) S) ha0 (by have:=h.a4;omega) ⟨ps,ws,_,_,_,_,rfl,hq,hu,w⟩ ?_ ?_ (fun d l' S' q=>.inr ⟨d,rfl,q⟩)
   ·rintro c l S5 hc ⟨ps,ws,y11,y12,y13,y14,rfl,hq,hu,w⟩
    have hfew:=w.few h h'
    have hul:=w.ln ii u hu
    have hil:=(qme hq).1
    obtain ⟨cs,c1,c2⟩:=zmo h hqi.1 hc
    obtain ⟨ds,c3,c4⟩:=zmo h' hqi.2 hc
    simp only [zba,qs0,qs1]
    refine za0 (l':=[some dM,some dO,some dB,some (.ref f),some (.ref S.length),some (.ref (S.length+1)),some (.ref (S.length+2)),some (.int ((ii+1:Nat):Int)),some (.int (q.1:Int)),some (.int (q.2:Int)),some (wD u),some (.int (c:Int)),some (kD (cell rs q.1 c)),y13,y14]) (S':=S5) ?_ ?_
    ·rw [←hM]
     simp! only [mD,c1,c2,true_and]
     all_goals first|trivial|exact ⟨(by first|rfl|trivial),(by first|rfl|trivial)⟩
    refine za0 (l':=[some dM,some dO,some dB,some (.ref f),some (.ref S.length),some (.ref (S.length+1)),some (.ref (S.length+2)),some (.int ((ii+1:Nat):Int)),some (.int (q.1:Int)),some (.int (q.2:Int)),some (wD u),some (.int (c:Int)),some (kD (cell rs q.1 c)),some (kD (cell rs2 q.2 c)),y14]) (S':=S5) ?_ ?_
    ·rw [←hO]
     simp! only [mD,c3,c4,true_and]
     all_goals first|trivial|exact ⟨(by first|rfl|trivial),(by first|rfl|trivial)⟩
    have hfn:zhn S5 (.ref f)=some ("lacks":Str):=by unfold zhn;dsimp only;rw [w.g.get hf]
    have hlk:List.lookup ("lacks":Str) [(("lacks":Str),zft)]=some zft:=by simp [List.lookup]
    refine zgw (fun l S8=>l=[some dM,some dO,some dB,some (.ref f),some (.ref S.length),some (.ref (S.length+1)),some (.ref (S.length+2)),some (.int ((ii+1:Nat):Int)),some (.int (q.1:Int)),some (.int (q.2:Int)),some (wD u),some (.int (c:Int)),some (kD (cell rs q.1 c)),some (kD (cell rs2 q.2 c)),y14]/\S8=S5/\fl2 rs rs2 q c=false) (WB asks rs rs2 (i,j) S) ?_ ?_ (fun d l1 S1 o=>.inr ⟨d,rfl,o⟩)
    ·refine zd8 (fun b S8=>b=fl2 rs rs2 q c/\S8=S5) ?_ ?_ ?_
     ·simp! only [hfn,hlk]
      refine ⟨_,_,ydl _ _ _,?_⟩
      exact ⟨fl2 rs rs2 q c,(by first|rfl|trivial),(by first|rfl|trivial),(by first|rfl|trivial)⟩
     ·rintro S8 ⟨hb,rfl⟩
      simp! only [wD]
      refine ⟨by omega,by rw [qlm];omega,by omega,.inr ⟨_,rfl,w.g,some (u++[c]),S.length,?_,w.b.found hc hq hu hb.symm,by rw [qla,List.length_singleton];omega⟩⟩
      rw [zse];rfl
     ·rintro S8 ⟨hb,rfl⟩
      simp! only [zan]
      exact .inl ⟨(by first|rfl|trivial),(by first|rfl|trivial),(by first|rfl|trivial),hb.symm⟩
    rintro l S8 ⟨rfl,rfl,hfl⟩
    refine za0 (l':=[some dM,some dO,some dB,some (.ref f),some (.ref S.length),some (.ref (S.length+1)),some (.ref (S.length+2)),some (.int ((ii+1:Nat):Int)),some (.int (q.1:Int)),some (.int (q.2:Int)),some (wD u),some (.int (c:Int)),some (kD (cell rs q.1 c)),some (kD (cell rs2 q.2 c)),some (.tup [oD (cell rs q.1 c).1,oD (cell rs2 q.2 c).1])]) (S':=S8) ?_ ?_
    ·have sz2:2<=sizeLine:=by omega
     simp! only [kD,sz2,true_and]
     all_goals first|trivial|exact ⟨(by first|rfl|trivial),(by first|rfl|trivial)⟩
    refine zd8 (fun b S10=>S10=S8/\(b=true->∃q',nx2 rs rs2 q c=some q'/\q' ∉ ps)/\(b=false->∀q',nx2 rs rs2 q c=some q'->q'∈ps)) ?_ ?_ ?_
    ·simp_all! only [ydn]
     cases hbo:zb6 (cell rs q.1 c).1 (cell rs2 q.2 c).1 with
     | none =>
      simp_all! only [Option.isSome_none,Bool.false_eq_true,if_false,if_true]
      refine ⟨(by first|rfl|trivial),fun z=>z.elim,fun _ q' hs=>?_⟩
      unfold nx2 at hs;rw [hbo] at hs;cases hs
     | some q' =>
      have hs:nx2 rs rs2 q c=some q':=hbo
      simp_all! only [Option.isSome_some,if_true]
      rw [zsc hbo]
      unfold pD
      rw [ycc w.s2 (zsf q')]
      simp only [pI_mem,if_true]
      refine ⟨_,rfl,(by first|rfl|trivial),fun z=>⟨q',hs,by simpa using z⟩,fun z q2 h2=>?_⟩
      rw [hs] at h2;cases h2
      simpa using z
    ·rintro S10 ⟨rfl,hb,_⟩
     obtain ⟨q',hs,hn⟩:=hb rfl
     have hbo:zb6 (cell rs q.1 c).1 (cell rs2 q.2 c).1=some q':=hs
     rw [zsc hbo]
     refine za0 (l':=[some dM,some dO,some dB,some (.ref f),some (.ref S.length),some (.ref (S.length+1)),some (.ref (S.length+2)),some (.int ((ii+1:Nat):Int)),some (.int (q.1:Int)),some (.int (q.2:Int)),some (wD u),some (.int (c:Int)),some (kD (cell rs q.1 c)),some (kD (cell rs2 q.2 c)),some (pD q')]) (S':=S10.set (S.length+2) (.tset (ps.map pI++[pI q']))) ?_ ?_
     ·rw [zcj,ycf]
      simp_all! only [yce w.s2,true_and]
      unfold pD
      rw [ycd w.s2 (zsf q') (by rw [qlm];omega) (fun z=>hn (pI_mem.mp z))]
      all_goals first|trivial|exact ⟨(by first|rfl|trivial),(by first|rfl|trivial),(by first|rfl|trivial)⟩|exact ⟨(by first|rfl|trivial),(by first|rfl|trivial)⟩
     have g0:(S10.set (S.length+2) (.tset (ps.map pI++[pI q'])))[S.length]? = some (.lst (ps.map pD)):=zd5 w.s0 (by omega)
     refine za0 (l':=[some dM,some dO,some dB,some (.ref f),some (.ref S.length),some (.ref (S.length+1)),some (.ref (S.length+2)),some (.int ((ii+1:Nat):Int)),some (.int (q.1:Int)),some (.int (q.2:Int)),some (wD u),some (.int (c:Int)),some (kD (cell rs q.1 c)),some (kD (cell rs2 q.2 c)),some (pD q')]) (S':=(S10.set (S.length+2) (.tset (ps.map pI++[pI q']))).set S.length (.lst (ps.map pD++[pD q']))) ?_ ?_
     ·rw [zcj,zci]
      simp_all! only [zf9 g0,zgd,true_and]
      rw [zhq g0 (by rw [qlm];omega)]
      all_goals first|trivial|exact ⟨(by first|rfl|trivial),(by first|rfl|trivial),(by first|rfl|trivial)⟩|exact ⟨(by first|rfl|trivial),(by first|rfl|trivial)⟩
     have g1:((S10.set (S.length+2) (.tset (ps.map pI++[pI q']))).set S.length (.lst (ps.map pD++[pD q'])))[S.length+1]? = some (.lst (ws.map wD)):=zd5 (zd5 w.s1 (by omega)) (by omega)
     have hz1:(ws.map wD).length<sizeLine:=by rw [qlm,w.b.len];omega
     rw [zcj,zci]
     simp_all! only [zf9 g1,zgd,true_and,wD]
     refine ⟨by omega,by rw [qlm];omega,?_⟩
     rw [zhq g1 hz1,zse]
     exact .inl ⟨.inl (by first|rfl|trivial),ps++[q'],ws++[u++[c]],_,_,_,_,rfl,BF.get_left hq,BF.get_left hu,w.put h h' hc hq hu hfl hs hn⟩
    ·rintro S10 ⟨rfl,_,hb⟩
     simp! only [zan]
     exact .inl ⟨.inl (by first|rfl|trivial),ps,ws,_,_,_,_,rfl,hq,hu,⟨w.b.skip hc hq hu hfl (hb rfl),w.inn,w.ln,w.g,w.s0,w.s1,w.s2⟩⟩
   ·rintro l' S' ⟨ps,ws,y11,y12,y13,y14,rfl,hq,hu,w⟩
    have hil:=(qme hq).1
    refine .inl ⟨.inl rfl,m-1,by omega,ps,ws,_,_,_,_,_,_,_,ii+1,rfl,by omega,by omega,⟨w.b.next,w.inn,w.ln,w.g,w.s0,w.s1,w.s2⟩⟩
  ·rename_i hge
   exact ⟨ps,ws,_,_,_,_,_,_,_,ii,rfl,by omega,w⟩
 ·rintro l S1 ⟨ps,ws,x8,x9,x10,x11,x12,x13,x14,ii,rfl,rfl,w⟩
  simp! only [zan]
  exact ⟨by omega,w.g,none,_,rfl,w.b.none,ps,ws,w.s0,w.b⟩
inductive SpP (ns:List Int) (c A many:Nat) (S:Sto) (v:D) (S':Sto):Prop
 | mk (g:List (List Cl)) (e:v=mD A g) (ok:OkM A g) (l:g.length=many) (p:PQ ns (c+10) S') (f:Fn S S')
theorem zsg {ns:List Int}{c A:Nat}{g:List (List Cl)}{S:Sto}(h:PQ ns c S) (hc:c<80000000) (ok:OkM A g):Wo (zgz [.ref 2,mD A g] S) (SpP ns c A g.length S):=by
 have sz:=zcv
 have r1:=ok.r1
 have r24:=ok.r24
 have a1:=ok.a1
 have a4:=ok.a4
 unfold zgz zrv mD
 simp only [zbg,List.map_cons,List.map_nil,List.length_cons,List.length_nil,Nat.reduceAdd,Nat.reduceSub,List.replicate,List.cons_append,List.nil_append]
 generalize hM:D.tup [.int (A:Int),.tup (g.map roD)]=dM
 refine zax (fun l S'=>∃w:Nat,w<4/\PQ ns (c+1) S'/\Fn S S'/\l=[some (.ref 2),some dM,some (.int (w:Int)),none,none,none,none,none,none,none,none]) ?_ ?_
 ·simp! only [zan]
  refine (zbo h (by omega) (by decide) (by decide)).mono ?_
  rintro v S1 ⟨d,rfl,hd,p1,f1⟩
  first|exact ⟨(by first|rfl|trivial),d,by omega,p1,f1,rfl⟩|exact ⟨d,by omega,p1,f1,rfl⟩
 rintro l S1 ⟨w,hw,p1,f1,rfl⟩
 refine za0 (l':=[some (.ref 2),some dM,some (.int (w:Int)),some (.int (g.length:Int)),none,none,none,none,none,none,none]) (S':=S1) ?_ ?_
 ·rw [←hM]
  simp! only [qlm]
  first|exact ⟨(by first|rfl|trivial),(by first|rfl|trivial),(by first|rfl|trivial)⟩|exact ⟨(by first|rfl|trivial),(by first|rfl|trivial)⟩
 refine zax (fun l S'=>∃r:Nat,r<g.length/\PQ ns (c+2) S'/\Fn S S'/\l=[some (.ref 2),some dM,some (.int (w:Int)),some (.int (g.length:Int)),some (.int (r:Int)),none,none,none,none,none,none]) ?_ ?_
 ·simp! only [zan]
  refine (zbo p1 (by omega) (by omega) (by omega)).mono ?_
  rintro v S2 ⟨d,rfl,hd,p2,f2⟩
  first|exact ⟨(by first|rfl|trivial),d,by omega,p2,f1.trans f2,rfl⟩|exact ⟨d,by omega,p2,f1.trans f2,rfl⟩
 rintro l S2 ⟨r,hr,p2,f2,rfl⟩
 refine zax (fun l S'=>∃a:Nat,a<A/\PQ ns (c+3) S'/\Fn S S'/\l=[some (.ref 2),some dM,some (.int (w:Int)),some (.int (g.length:Int)),some (.int (r:Int)),some (.int (a:Int)),none,none,none,none,none]) ?_ ?_
 ·rw [←hM]
  simp! only [zan]
  refine (zbo p2 (by omega) (by omega) (by omega)).mono ?_
  rintro v S3 ⟨d,rfl,hd,p3,f3⟩
  first|exact ⟨(by first|rfl|trivial),d,by omega,p3,f2.trans f3,rfl⟩|exact ⟨d,by omega,p3,f2.trans f3,rfl⟩
 rintro l S3 ⟨a,ha,p3,f3,rfl⟩
 obtain ⟨cs,hcs,hca,hcg,hcm⟩:=zkd ok hr ha
 have hcl:=ok.len cs hcg
 have hgo:=ok.go cs hcg _ hcm
 generalize cell g r a=q at hca hcm hgo
 have e1:L2.atI (g.map roD) (r:Int)=some (.tup (cs.map kD)):=atI_get (by rw [qgm,hcs];rfl)
 have e2:L2.atI (cs.map kD) (a:Int)=some (.tup [oD q.1,oD q.2]):=atI_get (by rw [qgm,hca];rfl)
 refine za0 (l':=[some (.ref 2),some dM,some (.int (w:Int)),some (.int (g.length:Int)),some (.int (r:Int)),some (.int (a:Int)),some (oD q.1),some (oD q.2),none,none,none]) (S':=S3) ?_ ?_
 ·rw [←hM]
  simp! only [e1,e2,true_and]
  all_goals first|trivial|exact ⟨(by first|rfl|trivial),(by first|rfl|trivial)⟩
 refine zax (fun l S'=>∃t:Nat,t<g.length/\PQ ns (c+4) S'/\Fn S S'/\l=[some (.ref 2),some dM,some (.int (w:Int)),some (.int (g.length:Int)),some (.int (r:Int)),some (.int (a:Int)),some (oD q.1),some (oD q.2),some (.int (t:Int)),none,none]) ?_ ?_
 ·simp! only [zan]
  refine (zbo p3 (by omega) (by omega) (by omega)).mono ?_
  rintro v S4 ⟨d,rfl,hd,p4,f4⟩
  first|exact ⟨(by first|rfl|trivial),d,by omega,p4,f3.trans f4,rfl⟩|exact ⟨d,by omega,p4,f3.trans f4,rfl⟩
 rintro l S4 ⟨t,ht,p4,f4,rfl⟩
 refine zax (fun l S'=>∃z:Cl,(∀x,z.1=some x->x<g.length)/\PQ ns (c+5) S'/\Fn S S'/\l=[some (.ref 2),some dM,some (.int (w:Int)),some (.int (g.length:Int)),some (.int (r:Int)),some (.int (a:Int)),some (oD q.1),some (oD q.2),some (.int (t:Int)),some (kD z),none]) ?_ ?_
 ·have s2:2<=sizeLine:=by omega
  have s4:4<=sizeLine:=by omega
  simp! only [s2,true_and]
  refine (zbo p4 (by omega) (by decide) (by decide)).mono ?_
  rintro v S5 ⟨d,rfl,hd,p5,f5⟩
  simp! only [s2,s4,true_and]
  have:∃z:Cl,L2.atI [D.tup [oD q.1,.non],.tup [.non,oD q.2],.tup [oD q.1,.int (d:Int)],.tup [.int (t:Int),oD q.2]] (w:Int)=some (kD z)/\(∀x,z.1=some x->x<g.length):=by
   have:w=0∨w=1∨w=2∨w=3:=by omega
   rcases this with rfl|rfl|rfl|rfl
   ·exact ⟨(q.1,none),rfl,hgo⟩
   ·exact ⟨(none,q.2),rfl,fun x hx=>by cases hx⟩
   ·exact ⟨(q.1,some d),rfl,hgo⟩
   ·exact ⟨(some t,q.2),rfl,fun x hx=>by cases hx;exact ht⟩
  obtain ⟨z,hz,hz2⟩:=this
  simp only [hz]
  exact ⟨_,rfl,z,hz2,p5.gr ⟨_,rfl⟩,(f4.trans f5).trans (Fn.gr ⟨_,rfl⟩),rfl⟩
 rintro l S5 ⟨z,hz,p5,f5,rfl⟩
 refine za0 (l':=[some (.ref 2),some dM,some (.int (w:Int)),some (.int (g.length:Int)),some (.int (r:Int)),some (.int (a:Int)),some (oD q.1),some (oD q.2),some (.int (t:Int)),some (kD z),some (roD (cs.set a z))]) (S':=S5) ?_ ?_
 ·rw [zbq]
  refine zke (xs:=cs.map kD) (i:=a) (y:=kD z) (fun Q'=>by rw [←hM];simp_all! only [e1]) (fun Q'=>by simp_all! only [zan]) rfl (by rw [qlm];omega) (by rw [qlm];omega) ?_
  simp only [zba,qs0,qs1]
  refine ⟨(by first|rfl|trivial),?_,(by first|rfl|trivial)⟩
  unfold roD;rw [List.map_set]
 rw [zdl,zb4,zbv]
 have e0:∀Q':D->Sto->Prop,We (eOp zaj (zaa 1) (eC (.int 0))) [some (.ref 2),some dM,some (.int (w:Int)),some (.int (g.length:Int)),some (.int (r:Int)),some (.int (a:Int)),some (oD q.1),some (oD q.2),some (.int (t:Int)),some (kD z),some (roD (cs.set a z))] S5 Q' = Q' (.int (A:Int)) S5:=fun Q'=>by rw [←hM];simp_all! only [zan]
 rw [e0,zbv]
 refine zke (xs:=g.map roD) (i:=r) (y:=roD (cs.set a z)) (fun Q'=>by rw [←hM];simp_all! only [zan]) (fun Q'=>by simp_all! only [zan]) rfl (by rw [qlm];omega) (by rw [qlm];omega) ?_
 simp_all! only [zan]
 refine ⟨by omega,put g r cs a z,?_,zmq ok hcs hz,by simp [put],p5.mono (by omega),f5⟩
 unfold put mD;rw [List.map_set]
noncomputable def Hd (A:Nat) (t g:List (List Cl)) (R:List BF.P) (p:BF.P):Prop:=∀a,a<A->fl2 t g p a=false/\∀q,nx2 t g p a=some q->q∈R
noncomputable def Sm (A:Nat) (t g:List (List Cl)) (R:List BF.P):Prop:=∀p∈R,Hd A t g R p
noncomputable def InR (t g:List (List Cl)) (R:List BF.P):Prop:=∀p∈R,p.1<t.length/\p.2<g.length
theorem Sm.walk {A:Nat}{t g:List (List Cl)}{R:List BF.P}(h:Sm A t g R):∀(u:List Nat) (p q:BF.P),p∈R->(∀a∈u,a<A)->BF.walk (nx2 t g) p u=some q->q∈R
 | [],p,q,hp,_,e=>by cases e;exact hp
 | a :: u,p,q,hp,ha,e=>by
  obtain ⟨r,h1,h2⟩:=bnd (show (nx2 t g p a).bind (fun q=>BF.walk (nx2 t g) q u)=some q from e)
  exact Sm.walk h u r q ((h p hp a (ha a List.mem_cons_self)).2 r h1) (fun b hb=>ha b (List.mem_cons_of_mem _ hb)) h2
theorem Sm.noF {A:Nat}{t g:List (List Cl)}{R:List BF.P}(h:Sm A t g R) {p:BF.P}(hp:p∈R):∀w,¬BF.Fails A (nx2 t g) (fl2 t g) p w:=by
 rintro w ⟨u,b,q,rfl,hb,hu,hw,hf⟩
 have:=(h q (h.walk u p q hp hu hw) b hb).1
 rw [hf] at this;cases this
structure Rc (A:Nat) (t g:List (List Cl)) (qs:List BF.P):Prop where
 z:(0,0)∈qs
 sm:Sm A t g qs
 le:∀R,Sm A t g R->(0,0)∈R->∀p∈qs,p∈R
 inn:InR t g qs
 few:qs.length<=t.length*g.length
theorem zmu {A:Nat}{t g:List (List Cl)}(h:OkM A t) (h':OkM A g):∀(u:List Nat) (p q:BF.P),(p.1<t.length/\p.2<g.length)->(∀a∈u,a<A)->BF.walk (nx2 t g) p u=some q->q.1<t.length/\q.2<g.length
 | [],p,q,hp,_,e=>by cases e;exact hp
 | a :: u,p,q,hp,ha,e=>by
  obtain ⟨r,h1,h2⟩:=bnd (show (nx2 t g p a).bind (fun q=>BF.walk (nx2 t g) q u)=some q from e)
  exact zmu h h' u r q (zsd h h' hp (ha a List.mem_cons_self) h1) (fun b hb=>ha b (List.mem_cons_of_mem _ hb)) h2
theorem Rc.of {A:Nat}{t g:List (List Cl)}{ps qs:List BF.P}{ws:List (List Nat)}(h:OkM A t) (h':OkM A g) (b:BF.Bf A (nx2 t g) (fl2 t g) (0,0) ps ws ps.length 0) (pm:qs.Perm ps):Rc A t g qs:=by
 have at_:∀p∈ps,∃(k:Nat) (w:List Nat),k<ps.length/\ps[k]? = some p/\ws[k]? = some w:=fun p hp=>by
  obtain ⟨k,hk,rfl⟩:=List.mem_iff_getElem.mp hp
  exact ⟨k,_,hk,qge hk,qge (by rw [b.len];exact hk)⟩
 have inn:InR t g ps:=fun p hp=>by
  obtain ⟨k,w,hk,h1,h2⟩:=at_ p hp
  obtain ⟨h3,h4⟩:=b.wk k p w h1 h2
  exact zmu h h' w (0,0) p ⟨h.r1,h'.r1⟩ h4 h3
 have sm:Sm A t g ps:=fun p hp a ha=>by
  obtain ⟨k,w,hk,h1,h2⟩:=at_ p hp
  refine ⟨b.nf k p a (.inl ⟨hk,ha⟩) h1,fun q hq=>?_⟩
  obtain ⟨l,u,h3,_⟩:=b.cl k p w a q (.inl ⟨hk,ha⟩) h1 h2 hq
  exact qmg h3
 refine ⟨pm.mem_iff.mpr (qmg b.z.1),fun p hp a ha=>?_,fun R hR hz p hp=>?_,fun p hp=>inn p (pm.mem_iff.mp hp),?_⟩
 ·obtain ⟨h1,h2⟩:=sm p (pm.mem_iff.mp hp) a ha
  exact ⟨h1,fun q hq=>pm.mem_iff.mpr (h2 q hq)⟩
 ·obtain ⟨k,w,hk,h1,h2⟩:=at_ p (pm.mem_iff.mp hp)
  obtain ⟨h3,h4⟩:=b.wk k p w h1 h2
  exact hR.walk w _ _ hz h4 h3
 ·rw [pm.length_eq]
  exact BF.few2 ps b.nd inn
noncomputable def prI (p:BF.P):SP.Pr:=((p.1:Int),(p.2:Int))
noncomputable def unI (x:SP.Pr):BF.P:=(x.1.toNat,x.2.toNat)
theorem zsh:∀ps:List BF.P,zho (ps.map pD)=some (ps.map prI)
 | []=>rfl
 | p :: ps=>by
  show (dPr (pD p)).bind (fun x=>(zho (ps.map pD)).bind fun y=>some (x :: y))=_
  rw [zsh ps];rfl
theorem ydp {ps:List BF.P}(h:ps.Nodup):(ps.map prI).Nodup:=by
 unfold List.Nodup at h ⊢
 rw [List.pairwise_map]
 refine h.imp fun {a b} hab e=>hab ?_
 unfold prI at e
 have e1:(a.1:Int)=(b.1:Int):=congrArg Prod.fst e
 have e2:(a.2:Int)=(b.2:Int):=congrArg Prod.snd e
 exact Prod.ext (by omega) (by omega)
theorem ydq {S:Sto}{n:Nat}{ps:List BF.P}(h:S[n]? = some (.lst (ps.map pD))) (nd:ps.Nodup) (few:ps.length<1000):∃qs:List BF.P,qs.Perm ps/\zhp [.ref n] S=some (.ref S.length,S++[.lst (qs.map pD)]):=by
 have pm:=SP.sortP_perm (ps.map prI)
 have e1:((SP.sortP (ps.map prI)).map unI).map pD=(SP.sortP (ps.map prI)).map L3.pD:=by
  rw [List.map_map]
  apply List.map_congr_left
  intro x hx
  obtain ⟨p,_,rfl⟩:=List.mem_map.mp (pm.mem_iff.mp hx)
  rfl
 refine ⟨(SP.sortP (ps.map prI)).map unI,?_,?_⟩
 ·have:=pm.map unI
  rw [List.map_map] at this
  have e:ps.map (unI ∘ prI)=ps:=by
   have:(unI ∘ prI)=id:=rfl
   rw [this,List.map_id]
  rw [e] at this
  exact this
 ·rw [e1]
  unfold zhp
  show (lstOf S n).bind _=_
  rw [zbh h]
  show (zho (ps.map pD)).bind _=_
  rw [zsh]
  show (if _ then _ else _)=_
  rw [if_pos ⟨ydp nd,by rw [qlm];exact few⟩]
theorem ydr (A:Nat) (t g:List (List Cl)) (S:Sto):zgy [mD A t,mD A g] S=some (.non,S):=by
 have:Wo (zgy [mD A t,mD A g] S) fun v S'=>v=.non/\S' = S:=by
  unfold zgy zrm mD
  simp only [zbg,List.map_cons,List.map_nil,List.length_cons,List.length_nil,Nat.reduceAdd,Nat.reduceSub,List.replicate,List.cons_append,List.nil_append]
  simp [zbg,zdt,ze7,ze2,zcu,ze1,zan,zda,zbq,zdl,zcj,zf4,zf5,zba,zeg,zck,zcl,zcm,zb4,zci,zbv,zcb,zee,ze3,ze4,zef,ze5,ze6,ze8,ze9,zdy,zdz,zd3,zd0,zd1,zd2,zd4,zfq,zfm,zeh,zei,zem,zen,zej,zek,zeo,zfn,zfa,zdu,zel,zdv,zfb,zfo,zfc,zfp,zfd,zfe,List.map_cons,List.map_nil,List.length_cons,List.length_nil,Nat.reduceAdd,Nat.reduceSub,List.replicate,List.cons_append,List.nil_append,qg0,qg1,qs0,qs1,zcd,zdc,zfg,zfj,zfk,zfl,zfh,zfi,zdd,decide_eq_true_eq,zfs,zfr]
 obtain ⟨v,S',e,rfl,rfl⟩:=this
 exact e
inductive StP (A:Nat) (t g:List (List Cl)) (S:Sto) (v:D) (S':Sto):Prop
 | yes (g0:Gr S S') (x:D) (e:v=.tup [.str "yes",x]) (R:List BF.P) (sm:Sm A t g R) (hz:(0,0)∈R)
 | no (g0:Gr S S') (w:List Nat) (e:v=.tup [.str "no",wD w]) (lw:BF.Least A (nx2 t g) (fl2 t g) (0,0) w) (ll:w.length<=600)
theorem zmv {A:Nat}{t g:List (List Cl)}{S:Sto}(h:OkM A t) (h':OkM A g) :
  Wo (zd6 [mD A t,mD A g] S) (StP A t g S):=by
 have sz2:2<=sizeLine:=by decide
 unfold zd6 zrn
 simp only [zbg,List.map_cons,List.map_nil,List.length_cons,List.length_nil,Nat.reduceAdd,Nat.reduceSub,List.replicate,List.cons_append,List.nil_append]
 refine za0 (l':=[some (mD A t),some (mD A g),none,none]) (S':=S) ?_ ?_
 ·simp_all! only [zcj]
  exact ⟨_,_,ydr A t g S,(by first|rfl|trivial),(by first|rfl|trivial),(by first|rfl|trivial)⟩
 refine zax (fun l S'=>∃r n,l=[some (mD A t),some (mD A g),some (orD r),some (.ref n)]/\Gr S S'/\Wk A t g (0,0) r S' n) ?_ ?_
 ·rw [zbq]
  simp_all! only [sz2,true_and]
  have key:=ydo (S:=S++[.fnc "lacks"]) (f:=S.length) h h' h.r1 h'.r1 zb9
  refine Wo.mono key ?_
  rintro v S' ⟨g0,r,n,rfl,hw⟩
  simp only [zck,zcm,zcl,zba,List.length_cons,List.length_nil,qs0,qs1]
  exact ⟨by first|rfl|trivial,r,n,rfl,Gr.trans ((Gr.refl S).push (.fnc "lacks")) g0,hw⟩
 rintro l S1 ⟨r,n,rfl,g0,hw⟩
 cases r with
 | none =>
  obtain ⟨no,ps,ws,hs,hb⟩:=hw
  have rc:=Rc.of h h' hb (.refl _)
  have h24:t.length*g.length<=24*24:=Nat.mul_le_mul h.r24 h'.r24
  have fw:=rc.few
  obtain ⟨qs,pm,hx⟩:=ydq hs hb.nd (by omega)
  refine zgw (fun _ _=>False) (StP A t g S) ?_ (fun _ _ z=>z.elim) (fun d _ _ o=>o)
  unfold orD
  simp! only [zch,if_true]
  refine ⟨_,_,hx,?_⟩
  simp! only [zan]
  exact ⟨by omega,.inr ⟨_,rfl,.yes (Gr.trans g0 ⟨_,rfl⟩) _ rfl ps rc.sm rc.z⟩⟩
 | some w =>
  refine za0 (l':=[some (mD A t),some (mD A g),some (wD w),some (.ref n)]) (S':=S1) ?_ ?_
  ·unfold orD
   simp [zbg,zdt,ze7,ze2,zcu,ze1,zan,zda,zbq,zdl,zcj,zf4,zf5,zba,zeg,zck,zcl,zcm,zb4,zci,zbv,zcb,zee,ze3,ze4,zef,ze5,ze6,ze8,ze9,zdy,zdz,zd3,zd0,zd1,zd2,zd4,zfq,zfm,zeh,zei,zem,zen,zej,zek,zeo,zfn,zfa,zdu,zel,zdv,zfb,zfo,zfc,zfp,zfd,zfe,List.map_cons,List.map_nil,List.length_cons,List.length_nil,Nat.reduceAdd,Nat.reduceSub,List.replicate,List.cons_append,List.nil_append,qg0,qg1,qs0,qs1,zcd,zdc,zfg,zfj,zfk,zfl,zfh,zfi,zdd,decide_eq_true_eq,zfs,zfr,wD,zch]
  simp! only [zan]
  exact ⟨by omega,.no g0 w rfl hw.1 hw.2⟩
noncomputable abbrev Rw:=List Nat
noncomputable def zcw (r:Rw):D:=.tup (r.map nD)
noncomputable def goS (g:List (List Cl)) (s:Option Nat) (a:Nat):Option Nat:=s.bind fun r=>(cell g r a).1
noncomputable def sd (g:List (List Cl)):Option Nat->Rw->List (Option Nat)
 | _,[]=>[]
 | none,_ :: _=>[]
 | some s,a :: row=>(cell g s a).2 :: sd g (cell g s a).1 row
theorem zi0 (g:List (List Cl)):∀row:Rw,row.foldl (goS g) none=none
 | []=>rfl
 | a :: row=>zi0 g row
theorem zsi {g:GM}{b:SM}{x:D}{xs:List D}{l:Lo}{S:Sto}{Q:Fl->Lo->Sto->Prop}:Wr (zby g b (x :: xs) l S) Q=Wg (g x l S) fun l1 S1=>Ws b l1 S1 fun f l2 S2=>match f with
  | .nx=>Wr (zby g b xs l2 S2) Q
  | .ct=>Wr (zby g b xs l2 S2) Q
  | .bk=>Q .nx l2 S2
  | .rt d=>Q (.rt d) l2 S2:=by
 apply propext
 constructor
 ·rintro ⟨f,l',S',h,q⟩
  unfold zby at h
  obtain ⟨⟨l1,S1⟩,h1,h⟩:=bnd h
  obtain ⟨⟨f2,l2,S2⟩,h2,h⟩:=bnd h
  refine ⟨l1,S1,h1,f2,l2,S2,h2,?_⟩
  cases f2 with
  | nx=>exact ⟨f,l',S',h,q⟩
  | ct=>exact ⟨f,l',S',h,q⟩
  | bk=>cases h;exact q
  | rt d=>cases h;exact q
 ·rintro ⟨l1,S1,h1,f2,l2,S2,h2,h⟩
  cases f2 with
  | nx=>obtain ⟨f,l',S',h,q⟩:=h;exact ⟨f,l',S',by unfold zby;rw [h1];show (b l1 S1).bind _=_;rw [h2];exact h,q⟩
  | ct=>obtain ⟨f,l',S',h,q⟩:=h;exact ⟨f,l',S',by unfold zby;rw [h1];show (b l1 S1).bind _=_;rw [h2];exact h,q⟩
  | bk=>exact ⟨_,_,_,by unfold zby;rw [h1];show (b l1 S1).bind _=_;rw [h2];rfl,h⟩
  | rt d=>exact ⟨_,_,_,by unfold zby;rw [h1];show (b l1 S1).bind _=_;rw [h2];rfl,h⟩
theorem yds {g:GM}{b:SM}{l:Lo}{S:Sto}{Q:Fl->Lo->Sto->Prop}:Wr (zby g b [] l S) Q=Q .nx l S:=by
 apply propext
 exact ⟨fun hx1_=>by obtain ⟨f,l',S',h,q⟩:=hx1_;cases h;exact q,fun q=>⟨_,_,_,rfl,q⟩⟩
theorem zsj {A:Nat}{g:List (List Cl)}(h:OkM A g) (m rm rw:D) (S0:Sto):∀(row:Rw) (acc:List D) (s:Option Nat) (x6 x7:Option D),(∀a∈row,a<A)->(∀r,s=some r->r<g.length)->acc.length+row.length<1000 ->
  Wr (zby (zal 6) (zak (sIf (tE (eOp dIs (zaa 5) (eC .non))) (zjt) (zbl)) (zak (zap (eOp zaj (eOp zaj (zaa 3) (zaa 5)) (zaa 6)) (zcs 2 (zbf (zal 5) (zbf (zal 7) (zcr))))) (zc8 (zcz zcy (zaa 4) (zac (zaa 7) zae))))) (row.map nD)
   [some m,some rm,some rw,some (.tup (g.map roD)),some (.ref S0.length),some (oD s),x6,x7] (S0++[.lst acc]))
   fun f l S=>f=.nx/\∃y6 y7,l=[some m,some rm,some rw,some (.tup (g.map roD)),some (.ref S0.length),some (oD (row.foldl (goS g) s)),y6,y7]/\S=S0++[.lst (acc++(sd g s row).map oD)]
 | [],acc,s,x6,x7,_,_,_=>by
  rw [List.map_nil,yds]
  have:(sd g s []).map oD=[]:=by cases s <;> rfl
  exact ⟨rfl,x6,x7,rfl,by rw [this,List.append_nil]⟩
 | a :: row,acc,none,x6,x7,_,_,_=>by
  have:(sd g none (a :: row)).map oD=[]:=rfl
  rw [List.map_cons,zsi]
  simp! only [zde,Option.isNone_none,if_true]
  first|exact ⟨(by first|rfl|trivial),_,_,by rw [zi0],by rw [this,List.append_nil]⟩|exact ⟨_,_,by rw [zi0],by rw [this,List.append_nil]⟩
 | a :: row,acc,some s,x6,x7,ha,hs,hz=>by
  have sz:=zcv
  rw [List.length_cons] at hz
  obtain ⟨cs,h1,h2⟩:=zmo h (hs s rfl) (ha a List.mem_cons_self)
  have ih:=zsj h m rm rw S0 row (acc++[oD (cell g s a).2]) (cell g s a).1 (some (nD a)) (some (oD (cell g s a).2)) (fun d hd=>ha d (List.mem_cons_of_mem _ hd)) (fun r hr=>ziy h (hs s rfl) (ha a List.mem_cons_self) hr) (by rw [qla,List.length_singleton];omega)
  rw [List.map_cons,zsi]
  simp! only [zch,Bool.false_eq_true,if_false,zhy,nD,h1,h2,true_and,zf9 zb9,zgd]
  rw [zhq zb9 (by omega),zra]
  refine ih.mono ?_
  rintro f l S ⟨rfl,y6,y7,rfl,rfl⟩
  refine ⟨rfl,y6,y7,rfl,?_⟩
  rw [qaa];rfl
theorem zkg {A:Nat}{g:List (List Cl)}{S:Sto}{row:Rw}(h:OkM A g) (ha:∀a∈row,a<A) (hl:row.length<=700) :
  Wo (zd7 [mD A g,.int 0,zcw row] S) fun v S'=>v=.tup [.ref S.length,oD (row.foldl (goS g) (some 0))]/\S' = S++[.lst ((sd g (some 0) row).map oD)]:=by
 have sz:=zcv
 unfold zd7 zro mD zcw
 simp only [zbg,List.map_cons,List.map_nil,List.length_cons,List.length_nil,Nat.reduceAdd,Nat.reduceSub,List.replicate,List.cons_append,List.nil_append]
 refine za0 (l':=[some (.tup [.int (A:Int),.tup (g.map roD)]),some (.int 0),some (.tup (row.map nD)),some (.tup (g.map roD)),none,none,none,none]) (S':=S) ⟨_,_,_,rfl,rfl,rfl,rfl⟩ ?_
 refine za0 (l':=[some (.tup [.int (A:Int),.tup (g.map roD)]),some (.int 0),some (.tup (row.map nD)),some (.tup (g.map roD)),some (.ref S.length),none,none,none]) (S':=S++[.lst []]) ?_ ?_
 ·simp! only [zan]
  exact ⟨by omega,(by first|rfl|trivial),(by first|rfl|trivial),(by first|rfl|trivial)⟩
 refine za0 (l':=[some (.tup [.int (A:Int),.tup (g.map roD)]),some (.int 0),some (.tup (row.map nD)),some (.tup (g.map roD)),some (.ref S.length),some (oD (some 0)),none,none]) (S':=S++[.lst []]) ⟨_,_,_,rfl,rfl,rfl,rfl⟩ ?_
 refine zax (fun l S'=>∃y6 y7,l=[some (.tup [.int (A:Int),.tup (g.map roD)]),some (.int 0),some (.tup (row.map nD)),some (.tup (g.map roD)),some (.ref S.length),some (oD (row.foldl (goS g) (some 0))),y6,y7]/\S' = S++[.lst ((sd g (some 0) row).map oD)]) ?_ ?_
 ·rw [zqf]
  simp only [zan,qg0,qg1,zcd]
  have:=zsj h (.tup [.int (A:Int),.tup (g.map roD)]) (.int 0) (.tup (row.map nD)) S row [] (some 0) none none ha (fun r hr=>by cases hr;exact h.r1) (by simp;omega)
  rw [List.nil_append] at this
  exact this
 rintro l S2 ⟨y6,y7,rfl,rfl⟩
 simp! only [zan]
 exact ⟨by omega,(by first|rfl|trivial),(by first|rfl|trivial)⟩
theorem ydt {A:Nat}{g:List (List Cl)}{S:Sto}{row:Rw}(h:OkM A g) (ha:∀a∈row,a<A) (hl:row.length<=700):Wo (zht [mD A g,.int 0,zcw row] S) fun v S'=>v=.bl (decide ((sd g (some 0) row).length=row.length))/\Gr S S':=by
 unfold zht zrr
 simp only [zbg,List.map_cons,List.map_nil,List.length_cons,List.length_nil,Nat.reduceAdd,Nat.reduceSub,List.replicate,List.cons_append,List.nil_append]
 refine za0 (l':=[some (mD A g),some (.int 0),some (zcw row),some (.ref S.length)]) (S':=S++[.lst ((sd g (some 0) row).map oD)]) ?_ ?_
 ·simp_all! only [zbq]
  refine (zkg h ha hl).mono ?_
  rintro v S1 ⟨rfl,rfl⟩
  simp! only [zan]
  first|exact ⟨(by first|rfl|trivial),(by first|rfl|trivial),(by first|rfl|trivial)⟩|exact ⟨(by first|rfl|trivial),(by first|rfl|trivial)⟩
 unfold zcw
 simp! only [zdd,qlm]
 refine ⟨?_,⟨_,rfl⟩⟩
 congr 1
 apply decide_eq_decide.mpr
 omega
theorem zsk (g:List (List Cl)) (row:Rw) (a:Nat) (s:Option Nat):(row++[a]).foldl (goS g) s=goS g (row.foldl (goS g) s) a:=by rw [List.foldl_append];rfl
theorem zkh (g:List (List Cl)) (a:Nat):∀(row:Rw) (s r:Nat),row.foldl (goS g) (some s)=some r->(sd g (some s) (row++[a]))=sd g (some s) row++[(cell g r a).2]
 | [],s,r,e=>by cases e;cases h:(cell g s a).1 <;> simp [sd,h]
 | b :: row,s,r,e=>by
  have e:row.foldl (goS g) (cell g s b).1=some r:=e
  rw [List.cons_append]
  unfold sd
  cases h:(cell g s b).1 with
  | none=>rw [h,zi0] at e;cases e
  | some s2 =>
   rw [h] at e
   rw [zkh g a row s2 r e];rfl
theorem zmw (g:List (List Cl)):∀(row:Rw) (s r:Nat),row.foldl (goS g) (some s)=some r->(sd g (some s) row).length=row.length
 | [],s,r,_=>rfl
 | a :: row,s,r,e=>by
  have e:row.foldl (goS g) (cell g s a).1=some r:=e
  cases h:(cell g s a).1 with
  | none=>rw [h,zi0] at e;cases e
  | some s2 =>
   rw [h] at e
   have:=zmw g row s2 r e
   have e2:sd g (some s) (a :: row)=(cell g s a).2 :: sd g (some s2) row:=by rw [←h];rfl
   rw [e2,List.length_cons,this,List.length_cons]
theorem zmx {t g:List (List Cl)}:∀(u:List Nat) (p q:BF.P),BF.walk (nx2 t g) p u=some q->u.foldl (goS t) (some p.1)=some q.1/\u.foldl (goS g) (some p.2)=some q.2
 | [],p,q,e=>by cases e;exact ⟨rfl,rfl⟩
 | a :: u,p,q,e=>by
  obtain ⟨m,h1,h2⟩:=bnd (show (nx2 t g p a).bind (fun q=>BF.walk (nx2 t g) q u)=some q from e)
  obtain ⟨h3,h4⟩:=zmx u m q h2
  unfold nx2 zb6 at h1
  obtain ⟨x,hx,h1⟩:=bnd h1
  obtain ⟨y,hy,h1⟩:=bnd h1
  cases h1
  refine ⟨?_,?_⟩
  ·show u.foldl (goS t) (cell t p.1 a).1=_
   rw [hx];exact h3
  ·show u.foldl (goS g) (cell g p.2 a).1=_
   rw [hy];exact h4
noncomputable def fa (c d:Cl):Bool:=c.2.isSome && decide (d.2≠c.2)
noncomputable def fb (c d:Cl):Bool:=c.1.isSome && d.1.isNone
theorem ydu (c d:Cl):lak c d=(fa c d || fb c d):=rfl
theorem zsl {as:List D}{x:D}:L2.atI (as++[x]) (-1)=some x:=by
 unfold L2.atI
 have:L2.ixN (as++[x]).length (-1)=some as.length:=by
  unfold L2.ixN
  simp
  try omega
 rw [this]
 simp
theorem zki {i:Int}{S:Sto}{Q:D->Sto->Prop}:Wo (zff (.int i) S) Q=Q (.int (-i)) S:=zbe
theorem ydv {x y:Option Nat}{S:Sto}{Q:D->Sto->Prop}:Wo (dNe (oD x) (oD y) S) Q=Q (.bl (decide (x≠y))) S:=by
 have:dNe (oD x) (oD y) S=some (.bl (decide (x≠y)),S):=by
  cases x with
  | none=>cases y <;> rfl
  | some i =>
   cases y with
   | none=>rfl
   | some j =>
    show some (D.bl (!decide ((i:Int)=(j:Int))),S)=_
    by_cases e:i=j
    ·subst e;simp
    ·have:¬(i:Int)=(j:Int):=by omega
     simp [e,this]
 rw [this,zbe]
theorem zmy {A:Nat}{t g:List (List Cl)}{S:Sto}{u:List Nat}{b:Nat}{q:BF.P}(ok:OkM A t) (ok':OkM A g) (hu:∀a∈u,a<A) (hb:b<A) (hl:u.length<650) (hw:BF.walk (nx2 t g) (0,0) u=some q) :
  Wo (zep [mD A t,mD A g,zcw (u++[b])] S) fun v S'=>v=.tup [.bl (fa (cell t q.1 b) (cell g q.2 b)),.bl (fb (cell t q.1 b) (cell g q.2 b))]/\Gr S S':=by
 have sz:=zcv
 have s2:2<=sizeLine:=by omega
 obtain ⟨h1,h2⟩:=zmx u _ q hw
 have hr:∀a∈u++[b],a<A:=fun a ha=>by
  rcases List.mem_append.mp ha with z|z
  ·exact hu a z
  ·rw [List.mem_singleton.mp z];exact hb
 have hlen:(u++[b]).length<=700:=by simp;omega
 have e1:=zkh t b u 0 q.1 h1
 have e2:=zkh g b u 0 q.2 h2
 have f2:=zmw g u 0 q.2 h2
 have e3:(u++[b]).foldl (goS t) (some 0)=(cell t q.1 b).1:=by rw [zsk,h1];rfl
 have e4:(u++[b]).foldl (goS g) (some 0)=(cell g q.2 b).1:=by rw [zsk,h2];rfl
 generalize cell t q.1 b=c at e1 e3
 generalize cell g q.2 b=d at e2 e4
 unfold zep zrq
 simp only [zbg,List.map_cons,List.map_nil,List.length_cons,List.length_nil,Nat.reduceAdd,Nat.reduceSub,List.replicate,List.cons_append,List.nil_append]
 generalize hM:mD A t=dM
 generalize hO:mD A g=dO
 refine za0 (l':=[some dM,some dO,some (zcw (u++[b])),some (.ref S.length),some (oD c.1),none,none,none]) (S':=S++[.lst ((sd t (some 0) (u++[b])).map oD)]) ?_ ?_
 ·rw [←hM]
  simp_all! only [zbq]
  refine (zkg ok hr hlen).mono ?_
  rintro v S1 ⟨rfl,rfl⟩
  rw [e3]
  simp! only [zan]
  first|exact ⟨(by first|rfl|trivial),(by first|rfl|trivial),(by first|rfl|trivial),(by first|rfl|trivial)⟩|exact ⟨(by first|rfl|trivial),(by first|rfl|trivial),(by first|rfl|trivial)⟩
 have hA:(S++[.lst ((sd t (some 0) (u++[b])).map oD)])[S.length]? = some (.lst ((sd t (some 0) u).map oD++[oD c.2])):=by
  rw [zb9,e1,List.map_append];rfl
 have g1:Gr S (S++[.lst ((sd t (some 0) (u++[b])).map oD)]):=⟨_,rfl⟩
 generalize S++[.lst ((sd t (some 0) (u++[b])).map oD)]=S1 at hA g1
 refine za0 (l':=[some dM,some dO,some (zcw (u++[b])),some (.ref S.length),some (oD c.1),some (.ref S1.length),some (oD d.1),none]) (S':=S1++[.lst ((sd g (some 0) (u++[b])).map oD)]) ?_ ?_
 ·rw [←hO]
  simp_all! only [zbq]
  refine (zkg ok' hr hlen).mono ?_
  rintro v S2 ⟨rfl,rfl⟩
  rw [e4]
  simp! only [zan]
  first|exact ⟨(by first|rfl|trivial),(by first|rfl|trivial),(by first|rfl|trivial),(by first|rfl|trivial)⟩|exact ⟨(by first|rfl|trivial),(by first|rfl|trivial),(by first|rfl|trivial)⟩
 have hA2:(S1++[.lst ((sd g (some 0) (u++[b])).map oD)])[S.length]? = some (.lst ((sd t (some 0) u).map oD++[oD c.2])):=zf8 hA
 have hB2:(S1++[.lst ((sd g (some 0) (u++[b])).map oD)])[S1.length]? = some (.lst ((sd g (some 0) u).map oD++[oD d.2])):=by
  rw [zb9,e2,List.map_append];rfl
 have g2:Gr S (S1++[.lst ((sd g (some 0) (u++[b])).map oD)]):=g1.trans ⟨_,rfl⟩
 generalize S1++[.lst ((sd g (some 0) (u++[b])).map oD)]=S2 at hA2 hB2 g2
 have hln:¬(((((sd g (some 0) u).map oD++[oD d.2]).length:Nat):Int)<(((u++[b]).map nD).length:Nat)):=by
  rw [qla,qlm,f2,qlm];simp
 refine za0 (l':=[some dM,some dO,some (zcw (u++[b])),some (.ref S.length),some (oD c.1),some (.ref S1.length),some (oD d.1),some (.bl (fa c d))]) (S':=S2) ?_ ?_
 ·unfold zcw
  simp_all! only [zbq,zbh hA2,zbh hB2,zki,zsl,zde,ydv,hln,decide_false]
  cases hc:c.2 with
  | none=>simp [fa,hc]
  | some k =>
   simp [fa,hc]
 simp! only [zde]
 cases hc:c.1 with
 | none=>simp [zbg,zdt,ze7,ze2,zcu,ze1,zan,zda,zbq,zdl,zcj,zf4,zf5,zba,zeg,zck,zcl,zcm,zb4,zci,zbv,zcb,zee,ze3,ze4,zef,ze5,ze6,ze8,ze9,zdy,zdz,zd3,zd0,zd1,zd2,zd4,zfq,zfm,zeh,zei,zem,zen,zej,zek,zeo,zfn,zfa,zdu,zel,zdv,zfb,zfo,zfc,zfp,zfd,zfe,List.map_cons,List.map_nil,List.length_cons,List.length_nil,Nat.reduceAdd,Nat.reduceSub,List.replicate,List.cons_append,List.nil_append,qg0,qg1,qs0,qs1,zcd,zdc,zfg,zfj,zfk,zfl,zfh,zfi,zdd,decide_eq_true_eq,zfs,zfr,fb,hc,g2,s2]
 | some k=>simp [zbg,zdt,ze7,ze2,zcu,ze1,zan,zda,zbq,zdl,zcj,zf4,zf5,zba,zeg,zck,zcl,zcm,zb4,zci,zbv,zcb,zee,ze3,ze4,zef,ze5,ze6,ze8,ze9,zdy,zdz,zd3,zd0,zd1,zd2,zd4,zfq,zfm,zeh,zei,zem,zen,zej,zek,zeo,zfn,zfa,zdu,zel,zdv,zfb,zfo,zfc,zfp,zfd,zfe,List.map_cons,List.map_nil,List.length_cons,List.length_nil,Nat.reduceAdd,Nat.reduceSub,List.replicate,List.cons_append,List.nil_append,qg0,qg1,qs0,qs1,zcd,zdc,zfg,zfj,zfk,zfl,zfh,zfi,zdd,decide_eq_true_eq,zfs,zfr,fb,hc,g2,s2,zde]
theorem ydw (xs:List D) (x:D):zbw (xs++[x]) none (some (-1))=xs:=by
 unfold zbw
 rw [HT.sIx_none]
 have:HT.sIx (xs++[x]).length (xs++[x]).length (some (-1))=xs.length:=by
  show (if (-1:Int)<0 then ((-1:Int)+((xs++[x]).length:Int)).toNat else min (-1:Int).toNat (xs++[x]).length)=_
  rw [if_pos (by omega),qla,List.length_singleton]
  omega
 rw [this]
 simp
noncomputable def zc2 (w:Bool) (c:Cl):Cl:=if w then (c.1,none) else (none,c.2)
theorem zsm {A:Nat}{m:List (List Cl)}{S:Sto}{u:List Nat}{b i:Nat}{w:Bool}(ok:OkM A m) (hu:∀a∈u,a<A) (hb:b<A) (hl:u.length<650) (hi:u.foldl (goS m) (some 0)=some i) (him:i<m.length) :
  Wo (zhs [mD A m,zcw (u++[b]),.bl w] S) fun v S'=>(∃cs,m[i]? = some cs/\v=mD A (put m i cs b (zc2 w (cell m i b))))/\Gr S S':=by
 have sz:=zcv
 have s2:2<=sizeLine:=by omega
 have r24:=ok.r24
 have a4:=ok.a4
 obtain ⟨cs,hcs,hca,hcg,hcm⟩:=zkd ok him hb
 have hcl:=ok.len cs hcg
 generalize hq:cell m i b=q at hca
 have e1:L2.atI (m.map roD) (i:Int)=some (.tup (cs.map kD)):=atI_get (by rw [qgm,hcs];rfl)
 have e2:L2.atI (cs.map kD) (b:Int)=some (.tup [oD q.1,oD q.2]):=atI_get (by rw [qgm,hca];rfl)
 have e5:L2.atI (u.map nD++[.int (b:Int)]) (-1)=some (.int (b:Int)):=zsl
 have er:zcw (u++[b])=.tup (u.map nD++[.int (b:Int)]):=by unfold zcw;rw [List.map_append];rfl
 rw [er]
 unfold zhs zrp
 simp only [zbg,List.map_cons,List.map_nil,List.length_cons,List.length_nil,Nat.reduceAdd,Nat.reduceSub,List.replicate,List.cons_append,List.nil_append]
 generalize hM:mD A m=dM
 refine zax (fun l S'=>Gr S S'/\l=[some dM,some (.tup (u.map nD++[.int (b:Int)])),some (.bl w),some (.int (i:Int)),none,none,none,none]) ?_ ?_
 ·rw [←hM]
  simp_all! only [zbq,zki,ydw]
  have key:=zkg (S:=S) ok hu (by omega)
  unfold zcw at key
  refine key.mono ?_
  rintro v S1 ⟨rfl,rfl⟩
  rw [hi]
  simp! only [zan]
  first|exact ⟨(by first|rfl|trivial),⟨_,rfl⟩,rfl⟩|exact ⟨⟨_,rfl⟩,rfl⟩
 rintro l S1 ⟨g1,rfl⟩
 refine za0 (l':=[some dM,some (.tup (u.map nD++[.int (b:Int)])),some (.bl w),some (.int (i:Int)),some (oD q.1),some (oD q.2),none,none]) (S':=S1) ?_ ?_
 ·rw [←hM]
  unfold mD
  simp! only [zki,e1,e2,e5,true_and]
  all_goals first|trivial|exact ⟨(by first|rfl|trivial),(by first|rfl|trivial)⟩
 refine zax (fun l S'=>Gr S S'/\l=[some dM,some (.tup (u.map nD++[.int (b:Int)])),some (.bl w),some (.int (i:Int)),some (oD q.1),some (oD q.2),some (kD (zc2 w q)),none]) ?_ ?_
 ·have hw:L2.atI [D.tup [.non,oD q.2],.tup [oD q.1,.non]] (if w then 1 else 0)=some (kD (zc2 w q)):=by cases w <;> rfl
  simp! only [s2,true_and,zdd,hw]
  first|exact ⟨(by first|rfl|trivial),g1.push _,(by first|rfl|trivial)⟩|exact ⟨g1.push _,(by first|rfl|trivial)⟩|exact ⟨_,rfl,g1.push _,(by first|rfl|trivial)⟩|exact ⟨_,rfl,(by first|rfl|trivial),g1.push _,(by first|rfl|trivial)⟩|trace_state
 rintro l S2 ⟨g2,rfl⟩
 refine za0 (l':=[some dM,some (.tup (u.map nD++[.int (b:Int)])),some (.bl w),some (.int (i:Int)),some (oD q.1),some (oD q.2),some (kD (zc2 w q)),some (roD (cs.set b (zc2 w q)))]) (S':=S2) ?_ ?_
 ·rw [zbq]
  refine zke (xs:=cs.map kD) (i:=b) (y:=kD (zc2 w q)) (fun Q'=>by rw [←hM];unfold mD;simp_all! only [e1]) (fun Q'=>by simp_all! only [zki,e5]) rfl (by rw [qlm];omega) (by rw [qlm];omega) ?_
  simp only [zba,qs0,qs1]
  refine ⟨(by first|rfl|trivial),?_,(by first|rfl|trivial)⟩
  unfold roD;rw [List.map_set]
 rw [zdl,zb4,zbv]
 have e0:∀Q':D->Sto->Prop,We (eOp zaj (zaa 0) (eC (.int 0))) [some dM,some (.tup (u.map nD++[.int (b:Int)])),some (.bl w),some (.int (i:Int)),some (oD q.1),some (oD q.2),some (kD (zc2 w q)),some (roD (cs.set b (zc2 w q)))] S2 Q' = Q' (.int (A:Int)) S2:=fun Q'=>by rw [←hM];unfold mD;simp_all! only [zan]
 rw [e0,zbv]
 refine zke (xs:=m.map roD) (i:=i) (y:=roD (cs.set b (zc2 w q))) (fun Q'=>by rw [←hM];unfold mD;simp_all! only [zan]) (fun Q'=>by simp_all! only [zan]) rfl (by rw [qlm];omega) (by rw [qlm];omega) ?_
 simp_all! only [zan]
 refine ⟨by omega,⟨cs,hcs,?_⟩,g2⟩
 unfold put mD;rw [List.map_set]
theorem zkj {A:Nat}{m:List (List Cl)}{i b:Nat}{cs:List Cl}{c:Cl}(ok:OkM A m) (hcs:m[i]? = some cs) (hb:b<A) (r a:Nat):cell (put m i cs b c) r a=if r=i/\a=b then c else cell m r a:=by
 have hi:i<m.length:=(qme hcs).1
 have hcl:=ok.len cs (qmg hcs)
 unfold cell put
 rw [List.getElem?_set]
 by_cases e:i=r
 ·subst e
  rw [if_pos rfl,if_pos hi,hcs]
  show ((cs.set b c)[a]?).getD _=_
  rw [List.getElem?_set]
  by_cases e2:b=a
  ·subst e2
   rw [if_pos rfl,if_pos (by omega),if_pos ⟨rfl,rfl⟩];rfl
  ·rw [if_neg e2,if_neg (fun z=>e2 z.2.symm)];rfl
 ·rw [if_neg e,if_neg (fun z=>e z.1.symm)]
structure Ls (m' m:List (List Cl)):Prop where
 go:∀r a x,(cell m' r a).1=some x->(cell m r a).1=some x
 an:∀r a x,(cell m' r a).2=some x->(cell m r a).2=some x
theorem Ls.refl (m:List (List Cl)):Ls m m:=⟨fun _ _ _ h=>h,fun _ _ _ h=>h⟩
theorem Ls.trans {a b c:List (List Cl)}(h:Ls a b) (k:Ls b c):Ls a c:=⟨fun r x y e=>k.go r x y (h.go r x y e),fun r x y e=>k.an r x y (h.an r x y e)⟩
theorem Ls.put {A:Nat}{m:List (List Cl)}{i b:Nat}{cs:List Cl}{w:Bool}(ok:OkM A m) (hcs:m[i]? = some cs) (hb:b<A):Ls (put m i cs b (zc2 w (cell m i b))) m:=by
 refine ⟨fun r a x e=>?_,fun r a x e=>?_⟩
 ·rw [zkj ok hcs hb] at e
  by_cases z:r=i/\a=b
  ·rw [if_pos z] at e
   rw [z.1,z.2]
   cases w with
   | true=>exact e
   | false=>cases e
  ·rw [if_neg z] at e;exact e
 ·rw [zkj ok hcs hb] at e
  by_cases z:r=i/\a=b
  ·rw [if_pos z] at e
   rw [z.1,z.2]
   cases w with
   | true=>cases e
   | false=>exact e
  ·rw [if_neg z] at e;exact e
theorem Ls.nx {m' m g:List (List Cl)}(h:Ls m' m) {p q:BF.P}{a:Nat}(e:nx2 m' g p a=some q):nx2 m g p a=some q:=by
 unfold nx2 zb6 at e ⊢
 obtain ⟨x,hx,e⟩:=bnd e
 rw [h.go _ _ _ hx];exact e
theorem Ls.walk {m' m g:List (List Cl)}(h:Ls m' m):∀(u:List Nat) (p q:BF.P),BF.walk (nx2 m' g) p u=some q->BF.walk (nx2 m g) p u=some q
 | [],p,q,e=>e
 | a :: u,p,q,e=>by
  obtain ⟨x,h1,h2⟩:=bnd (show (nx2 m' g p a).bind (fun q=>BF.walk (nx2 m' g) q u)=some q from e)
  show (nx2 m g p a).bind _=_
  rw [h.nx h1]
  exact h.walk u x q h2
theorem Ls.fl {m' m g:List (List Cl)}(h:Ls m' m) {p:BF.P}{a:Nat}(e:fl2 m' g p a=true):fl2 m g p a=true:=by
 unfold fl2 lak at e ⊢
 rw [Bool.or_eq_true,Bool.and_eq_true,Bool.and_eq_true] at e ⊢
 rcases e with ⟨e1,e2⟩|⟨e1,e2⟩
 ·obtain ⟨x,hx⟩:=Option.isSome_iff_exists.mp e1
  refine .inl ⟨by rw [h.an _ _ _ hx];rfl,?_⟩
  rw [h.an _ _ _ hx]
  rw [hx] at e2;exact e2
 ·obtain ⟨x,hx⟩:=Option.isSome_iff_exists.mp e1
  exact .inr ⟨by rw [h.go _ _ _ hx];rfl,e2⟩
theorem Ls.fails {A:Nat}{m' m g:List (List Cl)}(h:Ls m' m) {p:BF.P}{w:List Nat}(e:BF.Fails A (nx2 m' g) (fl2 m' g) p w):BF.Fails A (nx2 m g) (fl2 m g) p w:=by
 obtain ⟨u,b,q,rfl,hb,hu,hw,hf⟩:=e
 exact ⟨u,b,q,rfl,hb,hu,h.walk u p q hw,h.fl hf⟩
theorem zsn:∀{u v:List Nat},BF.lx u v->HT.lexLt (u.map fun (a:Nat)=>(a:Int)) (v.map fun (a:Nat)=>(a:Int))=true
 | [],[],h=>h.elim
 | [],_ :: _,h=>h.elim
 | _ :: _,[],h=>h.elim
 | a :: u,b :: v,h=>by
  rw [List.map_cons,List.map_cons,HT.lexLt_cons]
  rcases h with z|⟨rfl,z⟩
  ·rw [if_neg (by omega)]
   exact decide_eq_true (by omega)
  ·rw [if_pos rfl];exact zsn z
theorem ydx {g:GM}{b:SM}(P:Nat->Lo->Sto->Prop) (O:D->Sto->Prop) {as:AM}{l:Lo}{S:Sto}{QS:Fl->Lo->Sto->Prop}(lo hi:Int) (h:Wa as l S fun xs S1=>xs=[.int lo,.int hi]/\P 0 l S1) (h0:0<=lo) (h1:lo<1000) (h2:0<=hi) (h3:hi<1000)
  (step:∀(i:Nat) l S,i<(hi-lo).toNat->P i l S->Wg (g (.int (lo+i)) l S) fun l1 S1=>Ws b l1 S1 fun f l2 S2=>((f=.nx∨f=.ct)/\P (i+1) l2 S2)∨∃d,f=.rt d/\O d S2)
  (fin:∀i l' S',P i l' S'->QS .nx l' S') (out:∀d l' S',O d S'->QS (.rt d) l' S'):Ws (zdk (zil as) g b) l S QS:=by
 obtain ⟨xs,S1,e,rfl,p0⟩:=h
 have hr:zil as l S=some ((lo,(hi-lo).toNat),S1):=by unfold zil;rw [e];show (if _ then _ else _)=_;rw [if_pos (by omega)]
 obtain ⟨f,l',S',e2,q⟩:=zka (g:=g) (b:=b) P O (zbm lo (hi-lo).toNat) 0 l S1 p0 (by
  intro i x l S hx hp
  obtain ⟨hi',rfl⟩:=zjx hx
  rw [Nat.zero_add] at hp ⊢
  exact step i l S hi' hp)
 refine ⟨f,l',S',by unfold zdk;rw [hr];exact e2,?_⟩
 rcases q with ⟨rfl,hp⟩|⟨d,rfl,hd⟩
 ·exact fin _ l' S' hp
 ·exact out d l' S' hd
noncomputable def pyW (w:List Nat):List PyData:=w.map fun (a:Nat)=>PyData.int (a:Int)
theorem zmz {S:Sto}{k:Nat}:∀{w:List Nat},(∀a∈w,a<1000)->zdw S (k+1) (w.map fun (a:Nat)=>D.int (a:Int))=some (pyW w)
 | [],_=>by unfold zdw;rfl
 | a :: w,h=>by
  rw [List.map_cons]
  unfold zdw
  have e:zbn S (k+1) (D.int (a:Int))=some (PyData.int (a:Int)):=by
   unfold zbn
   rw [if_pos (ycb (by have:=h a List.mem_cons_self;omega))]
  show (zbn S (k+1) (D.int (a:Int))).bind _=_
  rw [e]
  show (zdw S (k+1) (w.map fun (a:Nat)=>D.int (a:Int))).bind _=_
  rw [zmz (fun b hb=>h b (List.mem_cons_of_mem _ hb))];rfl
theorem zkk:∀w:List Nat,PyData.canLayAll0 (pyW w)=true
 | []=>by simp [pyW,PyData.canLayAll0]
 | a :: w=>by
  show PyData.canLayAll0 (PyData.int (a:Int) :: pyW w)=true
  simp only [PyData.canLayAll0,PyData.canLay0,Bool.true_and];exact zkk w
theorem ydy {S:Sto}{w:List Nat}{Q:D->Sto->Prop}(h:∀a∈w,a<1000) (hn:w≠[]):Wo (zhg (wD w) (.tup []) S) Q=Q (.bl false) S:=by
 have h1:zbn S 60 (wD w)=some (.tuple (pyW w)):=by
  unfold wD zbn
  rw [zmz h];rfl
 have h2:zbn S 60 (.tup [])=some (.tuple []):=by
  unfold zbn zdw;rfl
 have c1:(PyData.tuple (pyW w)).canLay0=true:=by rw [PyData.canLay0];exact zkk w
 have c2:(PyData.tuple []).canLay0=true:=by rw [PyData.canLay0];exact zkk []
 have e:(PyData.tuple (pyW w)).eqv (.tuple [])=false:=by
  cases w with
  | nil=>exact absurd rfl hn
  | cons a w =>
   show (PyData.tuple (PyData.int (a:Int) :: pyW w)).eqv (.tuple [])=false
   simp [PyData.eqv,PyData.eqvAll]
 have:zhg (wD w) (.tup []) S=some (.bl false,S):=by
  unfold zhg;rw [h1];show (zbn S 60 (.tup [])).bind _=_;rw [h2];show (if _ then _ else _)=_;rw [if_pos ⟨c1,c2⟩,e]
 rw [this,zbe]
theorem zso:∀u v:List Nat,PyData.eqvAll (pyW u) (pyW v)=decide (u=v)
 | [],[]=>by simp [pyW,PyData.eqvAll]
 | [],_ :: _=>by simp [pyW,PyData.eqvAll]
 | _ :: _,[]=>by simp [pyW,PyData.eqvAll]
 | a :: u,b :: v=>by
  show PyData.eqvAll (PyData.int (a:Int) :: pyW u) (PyData.int (b:Int) :: pyW v)=_
  simp only [PyData.eqvAll,PyData.eqv]
  rw [zso u v]
  by_cases e:a=b
  ·subst e
   by_cases e2:u=v <;> simp [e2]
  ·have:((a:Int) == (b:Int))=false:=by simp;omega
   rw [this];simp [e]
theorem ydz {S:Sto}{u v:List Nat}{Q:D->Sto->Prop}(h:∀a∈u,a<1000) (h':∀a∈v,a<1000):Wo (zhh (wD u) (wD v) S) Q=Q (.bl (!decide (u=v))) S:=by
 have e:∀w:List Nat,(∀a∈w,a<1000)->zbn S 60 (wD w)=some (.tuple (pyW w)):=fun w hw=>by
  unfold wD zbn
  rw [zmz hw];rfl
 have c:∀w:List Nat,(PyData.tuple (pyW w)).canLay0=true:=fun w=>by rw [PyData.canLay0];exact zkk w
 have:zhh (wD u) (wD v) S=some (.bl (!decide (u=v)),S):=by
  unfold zhh;rw [e u h];show (zbn S 60 (wD v)).bind _=_;rw [e v h'];show (if _ then _ else _)=_;rw [if_pos ⟨c u,c v⟩,PyData.eqv,zso]
 rw [this,zbe]
theorem zsp (w:List Nat):zcc (w.map fun (a:Nat)=>D.int (a:Int))=some (w.map fun (a:Nat)=>(a:Int)):=by
 have:(w.map fun (a:Nat)=>D.int (a:Int))=(w.map fun (a:Nat)=>(a:Int)).map D.int:=by rw [List.map_map];rfl
 rw [this,yat]
theorem yd0 {S:Sto}{u v:List Nat}{Q:D->Sto->Prop}(h:BF.sl v u):Wo (zgv (.tup [.int ((u.length:Nat):Int),wD u]) (.tup [.int ((v.length:Nat):Int),wD v]) S) Q=Q (.bl true) S:=by
 have e:gtP (u.length:Int) (v.length:Int) (u.map fun (a:Nat)=>(a:Int)) (v.map fun (a:Nat)=>(a:Int))=true:=by
  unfold gtP
  rcases h with z|⟨z1,z2⟩
  ·rw [if_neg (by omega)];exact decide_eq_true (by omega)
  ·rw [if_pos (by omega)];exact zsn z2
 have:zgv (.tup [.int ((u.length:Nat):Int),wD u]) (.tup [.int ((v.length:Nat):Int),wD v]) S=some (.bl true,S):=by
  unfold wD zgv
  show (zcc (u.map fun (a:Nat)=>D.int (a:Int))).bind _=_
  rw [zsp]
  show (zcc (v.map fun (a:Nat)=>D.int (a:Int))).bind _=_
  rw [zsp]
  show some (D.bl (gtP _ _ _ _),S)=_
  rw [e]
 rw [this,zbe]
theorem zsq {neg x y:Bool}{S:Sto}{Q:D->Sto->Prop}:Wo (dIn neg (.bl true) (.tup [.bl x,.bl y]) S) Q=Q (.bl (if neg then !(x || y) else (x || y))) S:=by
 have:dIn neg (.bl true) (.tup [.bl x,.bl y]) S=some (.bl (if neg then !(x || y) else (x || y)),S):=by
  cases x <;> cases y <;> cases neg <;> rfl
 rw [this];exact zbe
theorem zsr {t g:List (List Cl)}:∀(u:List Nat) (p q:BF.P) (k:Nat),BF.walk (nx2 t g) p u=some q->∃q',BF.walk (nx2 t g) p (u.take k)=some q'
 | u,p,q,0,_=>⟨p,rfl⟩
 | [],p,q,k+1,e=>⟨q,e⟩
 | a :: u,p,q,k+1,e=>by
  obtain ⟨m,h1,h2⟩:=bnd (show (nx2 t g p a).bind (fun q=>BF.walk (nx2 t g) q u)=some q from e)
  obtain ⟨q',h3⟩:=zsr u m q k h2
  refine ⟨q',?_⟩
  show (nx2 t g p a).bind (fun q=>BF.walk (nx2 t g) q (u.take k))=_
  rw [h1];exact h3
theorem yd1 {A:Nat}{t g:List (List Cl)}{S:Sto}{w:List Nat}(ok:OkM A t) (ok':OkM A g) (lw:BF.Least A (nx2 t g) (fl2 t g) (0,0) w) (hl:w.length<=600):Wo (zhu [mD A t,mD A g,wD w] S) fun v S'=>v=.bl true/\Gr S S':=by
 have sz:=zcv
 have s2:2<=sizeLine:=by omega
 have a4:=ok.a4
 obtain ⟨⟨u,b,q,rfl,hb,hu,hw,hf⟩,hmin⟩:=lw
 have hlu:u.length<650:=by simp at hl;omega
 have hsm:∀a∈u++[b],a<A:=fun a ha=>by
  rcases List.mem_append.mp ha with z|z
  ·exact hu a z
  ·rw [List.mem_singleton.mp z];exact hb
 have hsm2:∀a∈u++[b],a<1000:=fun a ha=>by have:=hsm a ha;omega
 obtain ⟨hg1,hg2⟩:=zmx u _ q hw
 have hqi:=zmu ok ok' u (0,0) q ⟨ok.r1,ok'.r1⟩ hu hw
 have hfl:(fa (cell t q.1 b) (cell g q.2 b) || fb (cell t q.1 b) (cell g q.2 b))=true:=hf
 have hlets:decide ((sd t (some 0) (u++[b])).length=(u++[b]).length)=true:=by
  rw [zkh t b u 0 q.1 hg1,qla,zmw t u 0 q.1 hg1];simp
 unfold zhu zrs
 simp only [zbg,List.map_cons,List.map_nil,List.length_cons,List.length_nil,Nat.reduceAdd,Nat.reduceSub,List.replicate,List.cons_append,List.nil_append]
 generalize hM:mD A t=dM
 generalize hO:mD A g=dO
 refine zax (fun l S'=>Gr S S'/\l=[some dM,some dO,some (wD (u++[b])),none,none,none,none,none]) ?_ ?_
 ·refine zd8 (fun k S'=>k=false/\Gr S S') ?_ (fun S9 z=>by cases z.1) ?_
  ·simp_all! only [Nat.zero_le,true_and,ydy hsm2 (by simp),Bool.false_eq_true,if_false]
   rw [←hM,←hO]
   refine (ydt (row:=u++[b]) ok hsm (by omega)).mono ?_
   rintro v S1 ⟨rfl,g1⟩
   rw [hlets]
   refine ⟨true,rfl,?_⟩
   first|rw [if_neg (by simp)]|simp only [Bool.not_true,Bool.false_eq_true,if_false]
   refine (zmy ok ok' hu hb hlu hw).mono ?_
   rintro v S2 ⟨rfl,g2⟩
   rw [zsq,hfl]
   first|exact ⟨_,rfl,rfl,g1.trans g2⟩|exact ⟨rfl,g1.trans g2⟩
  ·rintro S3 ⟨_,g3⟩
   simp! only [zan]
   first|exact ⟨(by first|rfl|trivial),g3,(by first|rfl|trivial)⟩|exact ⟨g3,(by first|rfl|trivial)⟩
 rintro l S1 ⟨g1,rfl⟩
 refine zax (fun l S'=>Gr S S'/\∃x3,l=[some dM,some dO,some (wD (u++[b])),x3,none,none,none,none]) ?_ ?_
 ·refine ydx (fun i l S'=>Gr S S'/\∃x3,l=[some dM,some dO,some (wD (u++[b])),x3,none,none,none,none]) (fun _ _=>False) 1 (((u++[b]).length:Nat):Int) ?_ (by omega) (by omega) (by omega) (by omega) ?_ (fun i l' S' h=>⟨rfl,h⟩) (fun d l' S' z=>z.elim)
  ·unfold wD
   simp_all! only [qlm]
   first|exact ⟨(by first|rfl|trivial),g1,_,rfl⟩|exact ⟨g1,_,rfl⟩
  ·rintro i l S2 hi ⟨g2,x3,rfl⟩
   have hi:i<u.length:=by
    rw [qla,List.length_singleton] at hi
    omega
   simp only [zba,qs0,qs1]
   have ek:(1:Int)+(i:Int)=((i+1:Nat):Int):=by omega
   have et:(u++[b]).take (i+1)=u.take i++[u[i]]:=by
    rw [List.take_append_of_le_length (by omega),List.take_succ_eq_append_getElem hi]
   have ec:zbw ((u++[b]).map fun (a:Nat)=>D.int (a:Int)) none (some ((i+1:Nat):Int))=(u.take i++[u[i]]).map nD:=by
    rw [zmp _ _ (by rw [qlm,qla];omega),←List.map_take,et];rfl
   obtain ⟨q',hq'⟩:=zsr u (0,0) q i hw
   have hu':∀a∈u.take i,a<A:=fun a ha=>hu a (List.mem_of_mem_take ha)
   have hbi:u[i]<A:=hu _ (qem hi)
   have hno:(fa (cell t q'.1 u[i]) (cell g q'.2 u[i]) || fb (cell t q'.1 u[i]) (cell g q'.2 u[i]))=false:=by
    cases hz:(fa (cell t q'.1 u[i]) (cell g q'.2 u[i]) || fb (cell t q'.1 u[i]) (cell g q'.2 u[i])) with
    | false=>rfl
    | true =>
     exfalso
     refine hmin (u.take i++[u[i]]) ⟨_,_,q',rfl,hbi,hu',hq',hz⟩ (.inl ?_)
     rw [qla,qla,List.length_take,List.length_singleton,List.length_singleton]
     omega
   refine zd8 (fun k S'=>k=false/\Gr S S') ?_ (fun S9 z=>by cases z.1) ?_
   ·rw [ek]
    unfold wD
    simp_all! only [ec]
    rw [←hM,←hO]
    have key:=zmy (S:=S2) (u:=u.take i) (b:=u[i]) (q:=q') ok ok' hu' hbi (by rw [List.length_take];omega) hq'
    unfold zcw at key
    refine key.mono ?_
    rintro v S3 ⟨rfl,g3⟩
    rw [zsq,hno]
    first|exact ⟨_,rfl,rfl,g2.trans g3⟩|exact ⟨rfl,g2.trans g3⟩
   ·rintro S3 ⟨_,g3⟩
    simp! only [zan]
    exact .inl ⟨(by first|exact .inl rfl|exact .inl trivial|trivial),g3,_,rfl⟩
 rintro l S2 ⟨g2,x3,rfl⟩
 refine za0 (l':=[some dM,some dO,some (wD (u++[b])),x3,some dM,none,none,none]) (S':=S2) (by simp! only [zan];exact ⟨(by first|rfl|trivial),(by first|rfl|trivial),(by first|rfl|trivial)⟩) ?_
 generalize hc:cell t q.1 b=c at hfl
 generalize hd:cell g q.2 b=d at hfl
 have hfs:=zmy (S:=S2) ok ok' hu hb hlu hw
 rw [hc,hd,hM,hO] at hfs
 obtain ⟨v3,S3,e3,rfl,g3⟩:=hfs
 have ha0:zac (zaf zaw (zac (eC (.bl true)) (zac (eC (.bl false)) (zae)))) (zac (zaf zep (zac (zaa 0) (zac (zaa 1) (zac (zaa 2) (zae))))) (zae)) [some dM,some dO,some (wD (u++[b])),x3,some dM,none,none,none] S2=some ([.tup [.bl true,.bl false],.tup [.bl (fa c d),.bl (fb c d)]],S3):=by
  have:Wa (zac (zaf zaw (zac (eC (.bl true)) (zac (eC (.bl false)) (zae)))) (zac (zaf zep (zac (zaa 0) (zac (zaa 1) (zac (zaa 2) (zae))))) (zae))) [some dM,some dO,some (wD (u++[b])),x3,some dM,none,none,none] S2 fun vs S'=>vs=[.tup [.bl true,.bl false],.tup [.bl (fa c d),.bl (fb c d)]]/\S' = S3:=by
   simp_all! only [zan]
   refine ⟨by omega,_,_,e3,?_⟩
   first|exact ⟨rfl,rfl⟩|simp
  obtain ⟨xs,S',e,rfl,rfl⟩:=this
  exact e
 refine zax (fun l S'=>Gr S S'/\∃m x5 x6,OkM A m/\Ls m t/\fa (cell m q.1 b) d=false/\fb (cell m q.1 b) d=false/\l=[some dM,some dO,some (wD (u++[b])),x3,some (mD A m),x5,x6,none]) ?_ ?_
 ·refine zrg (zl [.bl true,.bl false] [.bl (fa c d),.bl (fb c d)]) (fun i l S'=>Gr S S'/\∃m x5 x6,OkM A m/\Ls m t/\(i<=1->∀r a,(cell m r a).1=(cell t r a).1)/\(i=0->m=t)/\(1<=i->fa (cell m q.1 b) d=false)/\(2<=i->fb (cell m q.1 b) d=false)/\m.length=t.length/\l=[some dM,some dO,some (wD (u++[b])),x3,some (mD A m),x5,x6,none]) (fun _ _=>False) (yde ha0) ⟨g2.trans g3,t,_,_,ok,Ls.refl t,fun _ _ _=>rfl,fun _=>rfl,fun z=>absurd z (by omega),fun z=>absurd z (by omega),rfl,by rw [hM]⟩ (fun i l S' h=>zr9 rfl rfl) ?_ ?_ (fun d l' S' z=>z.elim)
  ·rintro i x l S4 hx ⟨g4,m,x5,x6,okm,ls,hgo,h0,h1,h2,hlen,rfl⟩
   have hfold:i<=1->u.foldl (goS m) (some 0)=some q.1:=fun hi=>by
    have e:∀(v:List Nat) (s:Option Nat),v.foldl (goS m) s=v.foldl (goS t) s:=fun v=>by
     induction v with
     | nil=>intro s;rfl
     | cons a v ih =>
      intro s
      show v.foldl (goS m) (goS m s a)=v.foldl (goS t) (goS t s a)
      rw [ih]
      congr 1
      cases s with
      | none=>rfl
      | some r=>exact hgo hi r a
    rw [e];exact hg1
   have hi2:i=0∨i=1:=by
    have:=(qme hx).1
    rw [ziz] at this
    simp at this
    omega
   rcases hi2 with rfl|rfl
   ·have ex:x=.tup [.bl true,.bl (fa c d)]:=by
     have:some (D.tup [.bl true,.bl (fa c d)])=some x:=hx
     exact (qoi this).symm
    subst ex
    have em:=h0 rfl
    subst em
    simp only [zck,zcm,zcl,zba,List.length_cons,List.length_nil,qs0,qs1]
    refine ⟨by first|rfl|trivial,?_⟩
    cases hfa:fa c d with
    | false =>
     simp! only [Bool.false_eq_true,if_false]
     exact .inl ⟨(by first|exact .inl rfl|exact .inl trivial|trivial),g4,m,_,_,ok,Ls.refl m,fun _ _ _=>rfl,fun z=>(by cases z),fun _=>by rw [hc];exact hfa,fun z=>absurd z (by omega),rfl,(by first|rfl|trivial)⟩
    | true =>
     simp! only [if_true]
     refine (zsm (w:=true) ok hu hb hlu hg1 hqi.1).mono ?_
     rintro v S5 ⟨⟨cs,hcs,rfl⟩,g5⟩
     have hcp:=zkj (c:=zc2 true (cell m q.1 b)) ok hcs hb
     refine .inl ⟨(by first|exact .inl rfl|exact .inl trivial|trivial),g4.trans g5,put m q.1 cs b (zc2 true (cell m q.1 b)),_,_,zmq ok hcs (fun z hz=>ziy ok hqi.1 hb hz),Ls.put ok hcs hb,fun _ r a=>?_,fun z=>(by cases z),fun _=>?_,fun z=>absurd z (by omega),by simp [put],(by first|rfl|trivial)⟩
     ·rw [hcp]
      by_cases z:r=q.1/\a=b
      ·rw [if_pos z,z.1,z.2];rfl
      ·rw [if_neg z]
     ·rw [hcp,if_pos ⟨rfl,rfl⟩];rfl
   ·have ex:x=.tup [.bl false,.bl (fb c d)]:=by
     have:some (D.tup [.bl false,.bl (fb c d)])=some x:=hx
     exact (qoi this).symm
    subst ex
    have hg:=hgo (qlr _)
    have hfa:=h1 (qlr _)
    have hfold:=hfold (qlr _)
    have hqm:q.1<m.length:=by rw [hlen];exact hqi.1
    simp only [zck,zcm,zcl,zba,List.length_cons,List.length_nil,qs0,qs1]
    refine ⟨by first|rfl|trivial,?_⟩
    cases hfb:fb c d with
    | false =>
     simp! only [Bool.false_eq_true,if_false]
     refine .inl ⟨(by first|exact .inl rfl|exact .inl trivial|trivial),g4,m,_,_,okm,ls,fun z=>absurd z (by omega),fun z=>(by cases z),fun _=>hfa,fun _=>?_,hlen,(by first|rfl|trivial)⟩
     unfold fb at hfb ⊢
     rw [hg q.1 b,hc];exact hfb
    | true =>
     simp! only [if_true]
     refine (zsm (w:=false) okm hu hb hlu hfold hqm).mono ?_
     rintro v S5 ⟨⟨cs,hcs,rfl⟩,g5⟩
     have hcp:=zkj (c:=zc2 false (cell m q.1 b)) okm hcs hb
     refine .inl ⟨(by first|exact .inl rfl|exact .inl trivial|trivial),g4.trans g5,put m q.1 cs b (zc2 false (cell m q.1 b)),_,_,zmq okm hcs (fun z hz=>by cases hz),(Ls.put okm hcs hb).trans ls,fun z=>absurd z (by omega),fun z=>(by cases z),fun _=>?_,fun _=>?_,by simp [put,hlen],(by first|rfl|trivial)⟩
     ·rw [hcp,if_pos ⟨rfl,rfl⟩];exact hfa
     ·rw [hcp,if_pos ⟨rfl,rfl⟩];rfl
  ·rintro l' S' ⟨g4,m,x5,x6,okm,ls,_,_,h1,h2,_,rfl⟩
   have:(zl [D.bl true,.bl false] [.bl (fa c d),.bl (fb c d)]).length=2:=by rw [ziz];rfl
   exact ⟨rfl,g4,m,x5,x6,okm,ls,h1 (by omega),h2 (by omega),rfl⟩
 rintro l S4 ⟨g4,m,x5,x6,okm,ls,hfa,hfb,rfl⟩
 have hnf:fl2 m g q b=false:=by
  show lak (cell m q.1 b) (cell g q.2 b)=false
  rw [ydu,hd,hfa,hfb];rfl
 refine zax (fun l S'=>Gr S S'/\((∃x,l=[some dM,some dO,some (wD (u++[b])),x3,some (mD A m),x5,x6,some (.tup [.str "yes",x])])∨(∃v,BF.Least A (nx2 m g) (fl2 m g) (0,0) v/\l=[some dM,some dO,some (wD (u++[b])),x3,some (mD A m),x5,x6,some (.tup [.str "no",wD v])]))) ?_ ?_
 ·rw [←hO]
  simp_all! only [zbq]
  refine (zmv okm ok').mono ?_
  rintro v S5 (⟨g5,x,rfl,R,_,_⟩|⟨g5,v',rfl,lw',_⟩)
  ·first|exact ⟨(by first|rfl|trivial),g4.trans g5,.inl ⟨x,rfl⟩⟩|exact ⟨g4.trans g5,.inl ⟨x,rfl⟩⟩
  ·first|exact ⟨(by first|rfl|trivial),g4.trans g5,.inr ⟨v',lw',rfl⟩⟩|exact ⟨g4.trans g5,.inr ⟨v',lw',rfl⟩⟩
 rintro l S5 ⟨g5,⟨x,rfl⟩|⟨v,lv,rfl⟩⟩
 ·simp! only [decide_true,if_true]
  first|exact ⟨rfl,g5⟩|exact ⟨(by first|rfl|trivial),g5⟩|exact ⟨true,rfl,by rw [if_pos rfl];exact ⟨rfl,g5⟩⟩
 ·have hfv:=lv.1
  have hv1:∀a∈v,a<1000:=fun a ha=>by
   obtain ⟨u',b',q',rfl,hb',hu',_⟩:=hfv
   rcases List.mem_append.mp ha with z|z
   ·have:=hu' a z;omega
   ·rw [List.mem_singleton.mp z];omega
  have hne:¬v=u++[b]:=fun e=>by
   obtain ⟨u',b',q',e',hb',hu',hw',hf'⟩:=hfv
   rw [e] at e'
   obtain ⟨e1,e2⟩:=List.append_inj' e' rfl
   have e2:b=b':=by simpa using e2
   subst e1 e2
   have:=ls.walk u _ q' hw'
   rw [hw] at this
   cases this
   rw [hnf] at hf';cases hf'
  have hsl:BF.sl (u++[b]) v:=by
   rcases BF.sl_tot (u++[b]) v with z|z|z
   ·exact absurd z.symm hne
   ·exact z
   ·exact absurd z (hmin v (ls.fails hfv))
  have hstr:¬PySem.Str.ofString "no" = PySem.Str.ofString "yes":=by decide
  have hln:∀(z:List Nat) (T:Sto) (Q':D->Sto->Prop),Wo (zbx [wD z] T) Q' = Q' (.int ((z.length:Nat):Int)) T:=fun z T Q'=>by unfold wD;rw [zeo,qlm]
  simp! only [zan]
  rw [if_neg hstr,ydz hv1 hsm2,decide_eq_false hne]
  refine ⟨true,rfl,?_⟩
  rw [if_pos rfl,hln]
  refine ⟨s2,?_⟩
  rw [hln]
  refine ⟨s2,?_⟩
  rw [yd0 hsl]
  exact ⟨rfl,g5⟩
inductive ToT (A:Nat) (t g:List (List Cl)) (S:Sto) (v:D) (S':Sto):Prop
 | yes (g0:Gr S S') (e:v=.bl true) (R:List BF.P) (sm:Sm A t g R) (hz:(0,0)∈R)
 | no (g0:Gr S S') (e:v=.bl false) (no:∀R,Sm A t g R->(0,0) ∉ R)
theorem zhz {A:Nat}{t g:List (List Cl)}{S:Sto}(ok:OkM A t) (ok':OkM A g):Wo (zeq [mD A t,mD A g] S) (ToT A t g S):=by
 unfold zeq zrt
 simp only [zbg,List.map_cons,List.map_nil,List.length_cons,List.length_nil,Nat.reduceAdd,Nat.reduceSub,List.replicate,List.cons_append,List.nil_append]
 refine zax (fun l S'=>Gr S S'/\((∃x R,Sm A t g R/\(0,0)∈R/\l=[some (mD A t),some (mD A g),some (.tup [.str "yes",x])])∨(∃v,BF.Least A (nx2 t g) (fl2 t g) (0,0) v/\v.length<=600/\l=[some (mD A t),some (mD A g),some (.tup [.str "no",wD v])]))) ?_ ?_
 ·simp_all! only [zbq]
  refine (zmv ok ok').mono ?_
  rintro v S5 (⟨g5,x,rfl,R,sm,hz⟩|⟨g5,v',rfl,lw',ll⟩)
  ·first|exact ⟨(by first|rfl|trivial),g5,.inl ⟨x,R,sm,hz,rfl⟩⟩|exact ⟨g5,.inl ⟨x,R,sm,hz,rfl⟩⟩
  ·first|exact ⟨(by first|rfl|trivial),g5,.inr ⟨v',lw',ll,rfl⟩⟩|exact ⟨g5,.inr ⟨v',lw',ll,rfl⟩⟩
 rintro l S1 ⟨g1,⟨x,R,sm,hz,rfl⟩|⟨v,lv,ll,rfl⟩⟩
 ·refine zgw (fun _ _=>False) (ToT A t g S) ?_ (fun _ _ z=>z.elim) (fun d _ _ o=>o)
  simp! only [decide_true,if_true]
  exact .inr ⟨_,rfl,.yes g1 rfl R sm hz⟩
 ·have hstr:¬PySem.Str.ofString "no" = PySem.Str.ofString "yes":=by decide
  refine za0 (l':=[some (mD A t),some (mD A g),some (.tup [.str "no",wD v])]) (S':=S1) ?_ ?_
  ·simp! only [hstr,decide_false,Bool.false_eq_true,if_false]
   all_goals first|trivial|exact ⟨(by first|rfl|trivial),(by first|rfl|trivial),(by first|rfl|trivial)⟩
  refine zax (fun l S'=>Gr S S'/\l=[some (mD A t),some (mD A g),some (.tup [.str "no",wD v])]) ?_ ?_
  ·refine zd8 (fun k S'=>k=false/\Gr S S') ?_ (fun S9 z=>by cases z.1) ?_
   ·simp_all! only [decide_true,Bool.not_true,Bool.false_eq_true,if_false]
    refine (yd1 ok ok' lv ll).mono ?_
    rintro z S3 ⟨rfl,g3⟩
    first|exact ⟨true,rfl,rfl,g1.trans g3⟩|exact ⟨rfl,g1.trans g3⟩
   ·rintro S3 ⟨_,g3⟩
    simp! only [zan]
    first|exact ⟨(by first|rfl|trivial),g3,(by first|rfl|trivial)⟩|exact ⟨g3,(by first|rfl|trivial)⟩
  rintro l S2 ⟨g2,rfl⟩
  simp! only [zan]
  exact .no g2 rfl fun R hR hz=>hR.noF hz v lv.1
theorem zss {g:List (List Cl)}{r a:Nat}{cs:List Cl}{c:Cl}(h:g[r]? = some cs) (hc:cs[a]? = some c):cell g r a=c:=by
 unfold cell;rw [h];show (cs[a]?).getD _=_;rw [hc];rfl
noncomputable def cpR (n m:Nat) (od:List Nat):List BF.P:=(List.range m).map fun i=>(i % n,od.getD i 0)
theorem zm0 {c d:Cl}(h1:∀v,c.2=some v->d.2=some v) (h2:∀x,c.1=some x->d.1.isSome=true):lak c d=false:=by
 obtain ⟨c1,c2⟩:=c
 obtain ⟨d1,d2⟩:=d
 unfold lak
 cases c2 with
 | none =>
  cases c1 with
  | none=>rfl
  | some x =>
   have:=h2 x rfl
   cases d1 with
   | none=>cases this
   | some y=>rfl
 | some v =>
  have e:d2=some v:=h1 v rfl
  subst e
  cases c1 with
  | none=>simp
  | some x =>
   have:=h2 x rfl
   cases d1 with
   | none=>cases this
   | some y=>simp
theorem yd2 {A k:Nat}{t g2 g3:List (List Cl)}{od:List Nat}(ok:OkM A t) (cp:Cpy t k g2) (nm:Nmd od g2 g3):Sm A t g3 (cpR t.length g2.length od):=by
 intro p hp a ha
 obtain ⟨i,hi,rfl⟩:=List.mem_map.mp hp
 have hi:=List.mem_range.mp hi
 obtain ⟨j,hj⟩:=zkf nm.pm hi
 have hds:g2[i]? = some g2[i]:=qge hi
 generalize g2[i]=ds at hds
 obtain ⟨cs,hcs,hcr⟩:=cp.at_ i ds hds
 have hcl:=ok.len cs (qmg hcs)
 obtain ⟨c,hc⟩:∃c,cs[a]? = some c:=⟨_,qge (by omega)⟩
 obtain ⟨d,hd,q⟩:=hcr.2 a c hc
 have h3:=nm.at_ i j ds hds hj
 have e1:cell t (i % t.length) a=c:=zss hcs hc
 have e0:od.getD i 0=j:=by rw [List.getD_eq_getElem?_getD,hj];rfl
 have e2:cell g3 (od.getD i 0) a=rn od d:=by
  rw [e0]
  exact zss h3 (by rw [qgm,hd];rfl)
 have hgo:=ok.go cs (qmg hcs) c (qmg hc)
 constructor
 ·show lak (cell t (i % t.length) a) (cell g3 (od.getD i 0) a)=false
  rw [e1,e2]
  refine zm0 (fun v hv=>q.an v hv) fun x hx=>?_
  obtain ⟨y,_,hy⟩:=q.go x hx
  show (d.1.map _).isSome=true
  rw [hy];rfl
 ·intro q' hq'
  have hq':zb6 (cell t (i % t.length) a).1 (cell g3 (od.getD i 0) a).1=some q':=hq'
  rw [e1,e2] at hq'
  unfold zb6 at hq'
  obtain ⟨x,hx,hq'⟩:=bnd hq'
  obtain ⟨y,hy,hq'⟩:=bnd hq'
  cases hq'
  obtain ⟨z,_,hz⟩:=q.go x hx
  have hy:(d.1.map fun x=>od.getD x 0)=some y:=hy
  rw [hz] at hy
  have hy:od.getD (x+t.length*z) 0=y:=by simpa using hy
  have hlt:=q.lt _ hz
  rw [←cp.len] at hlt
  refine List.mem_map.mpr ⟨x+t.length*z,List.mem_range.mpr hlt,?_⟩
  rw [hy,Nat.add_mul_mod_self_left,Nat.mod_eq_of_lt (hgo x hx)]
theorem yd3 {A:Nat}{t:List (List Cl)}(ok:OkM A t):Sm A t t ((List.range t.length).map fun i=>(i,i)):=by
 intro p hp a ha
 obtain ⟨i,hi,rfl⟩:=List.mem_map.mp hp
 have hi:=List.mem_range.mp hi
 constructor
 ·exact zm0 (fun v hv=>hv) fun x hx=>by rw [hx];rfl
 ·intro q' hq'
  have hq':zb6 (cell t i a).1 (cell t i a).1=some q':=hq'
  unfold zb6 at hq'
  obtain ⟨x,hx,hq'⟩:=bnd hq'
  obtain ⟨y,hy,hq'⟩:=bnd hq'
  cases hq'
  rw [hx] at hy;cases hy
  exact List.mem_map.mpr ⟨x,List.mem_range.mpr (ziy ok hi ha hx),rfl⟩
theorem yd4 (ns:List Int) (hl:ns.length<=63):zbw (ns.map D.int) none (some 63)=ns.map D.int:=by
 unfold zbw
 rw [HT.sIx_none,show (63:Int)=((63:Nat):Int) from rfl,HT.sIx_nat]
 rw [List.drop_zero,List.take_of_length_le (by rw [qlm];omega)]
theorem yd5 {S:Sto}{n:Nat}{xs:List D}(h:S[n]? = some (.flst xs)):lstOf S n=some xs:=by unfold lstOf;rw [h]
theorem yd6 {c d e:Cl}(h1:lak c d=false) (h2:lak d e=false):lak c e=false:=by
 obtain ⟨c1,c2⟩:=c
 obtain ⟨d1,d2⟩:=d
 obtain ⟨e1,e2⟩:=e
 unfold lak at h1 h2
 rw [Bool.or_eq_false_iff] at h1 h2
 refine zm0 (fun v hv=>?_) fun x hx=>?_
 ·have hv:c2=some v:=hv
  subst hv
  have:d2=some v:=by simpa using h1.1
  subst this
  simpa using h2.1
 ·have hx:c1=some x:=hx
  subst hx
  cases d1 with
  | none=>simp at h1
  | some y =>
   cases e1 with
   | none=>simp at h2
   | some z=>rfl
theorem Sm.comp {A:Nat}{t g h:List (List Cl)}{R1 R2:List BF.P}(s1:Sm A t g R1) (s2:Sm A g h R2) (z1:(0,0)∈R1) (z2:(0,0)∈R2):∃R,Sm A t h R/\(0,0)∈R:=by
 obtain ⟨R,hR⟩:∃R:List BF.P,∀p:BF.P,p∈R↔∃j,(p.1,j)∈R1/\(j,p.2)∈R2:=by
  refine ⟨R1.flatMap fun p=>(R2.filter fun q=>q.1 == p.2).map fun q=>(p.1,q.2),fun p=>?_⟩
  simp only [List.mem_flatMap,List.mem_map,List.mem_filter,beq_iff_eq]
  constructor
  ·rintro ⟨x,hx,y,⟨hy,e⟩,rfl⟩
   exact ⟨x.2,hx,by rw [←e];exact hy⟩
  ·rintro ⟨j,h1,h2⟩
   exact ⟨(p.1,j),h1,(j,p.2),⟨h2,rfl⟩,rfl⟩
 refine ⟨R,fun p hp a ha=>?_,(hR _).mpr ⟨0,z1,z2⟩⟩
 obtain ⟨j,h1,h2⟩:=(hR p).mp hp
 obtain ⟨f1,n1⟩:=s1 _ h1 a ha
 obtain ⟨f2,n2⟩:=s2 _ h2 a ha
 have f1:lak (cell t p.1 a) (cell g j a)=false:=f1
 have f2:lak (cell g j a) (cell h p.2 a)=false:=f2
 refine ⟨yd6 f1 f2,fun q hq=>?_⟩
 have hq:zb6 (cell t p.1 a).1 (cell h p.2 a).1=some q:=hq
 unfold zb6 at hq
 obtain ⟨x,hx,hq⟩:=bnd hq
 obtain ⟨z,hz,hq⟩:=bnd hq
 cases hq
 have:∃y,(cell g j a).1=some y:=by
  unfold lak at f1
  rw [Bool.or_eq_false_iff,hx] at f1
  cases hy:(cell g j a).1 with
  | none=>rw [hy] at f1;simp at f1
  | some y=>exact ⟨y,rfl⟩
 obtain ⟨y,hy⟩:=this
 exact (hR _).mpr ⟨y,n1 (x,y) (by show zb6 _ _=_;rw [hx,hy];rfl),n2 (y,z) (by show zb6 _ _=_;rw [hy,hz];rfl)⟩
theorem ToT.of {A:Nat}{t g:List (List Cl)}{S S':Sto}{v:D}(h:ToT A t g S v S'):∃b:Bool,v=.bl b/\Gr S S'/\(b=true↔∃R,Sm A t g R/\(0,0)∈R):=by
 rcases h with ⟨g0,rfl,R,sm,hz⟩|⟨g0,rfl,no⟩
 ·exact ⟨true,rfl,g0,⟨fun _=>⟨R,sm,hz⟩,fun _=>rfl⟩⟩
 ·exact ⟨false,rfl,g0,⟨fun z=>(by cases z),fun ⟨R,sm,hz⟩=>absurd hz (no R sm)⟩⟩
theorem yd7 {A:Nat}{t:List (List Cl)}{S:Sto}(ok:OkM A t):Wo (zd6 [mD A t,mD A t] S) fun v S'=>(∃x,v=.tup [.str "yes",x])/\Gr S S':=by
 refine (zmv ok ok).mono ?_
 rintro v S1 (⟨g0,x,rfl,_⟩|⟨g0,w,rfl,lw,_⟩)
 ·exact ⟨⟨x,rfl⟩,g0⟩
 ·exact absurd lw.1 ((yd3 ok).noF (List.mem_map.mpr ⟨0,List.mem_range.mpr ok.r1,rfl⟩) w)
theorem yd8 {S:Sto}{n:Nat}{x y z:Bool}{Q:D->Sto->Prop}(h:lstOf S n=some [.bl x,.bl y,.bl z]):Wo (dIn false .non (.ref n) S) Q=Q (.bl false) S:=by
 have:dIn false .non (.ref n) S=some (.bl false,S):=by
  have e:dIn false .non (.ref n) S=zhi false .non (.ref n) S:=rfl
  rw [e];unfold zhi
  have e2:zl2 S (.ref n)=some [.bl x,.bl y,.bl z]:=h
  rw [e2];rfl
 rw [this];exact zbe
theorem yd9 {S:Sto}{n:Nat}{x y z:Bool}{Q:D->Sto->Prop}(h:lstOf S n=some [.bl x,.bl y,.bl z]):Wo (dIn false (.bl false) (.ref n) S) Q=Q (.bl (!(x && y && z))) S:=by
 have:dIn false (.bl false) (.ref n) S=some (.bl (!(x && y && z)),S):=by
  have e:dIn false (.bl false) (.ref n) S=zhi false (.bl false) (.ref n) S:=rfl
  rw [e];unfold zhi
  have e2:zl2 S (.ref n)=some [.bl x,.bl y,.bl z]:=h
  rw [e2];cases x <;> cases y <;> cases z <;> rfl
 rw [this];exact zbe
noncomputable def Sim (A:Nat) (t g:List (List Cl)):Prop:=∃R,Sm A t g R/\(0,0)∈R
inductive OtQ (ns:List Int) (c A:Nat) (t:List (List Cl)) (S:Sto) (v:D) (S':Sto):Prop
 | mk (g:List (List Cl)) (e:v=mD A g) (ok:OkM A g) (sim:Sim A t g) (p:PQ ns (c+500) S')
theorem zst {ns:List Int}{c A:Nat}{t:List (List Cl)}{S:Sto}(h:PQ ns c S) (hc:c<70000000) (ok:OkM A t):Wo (zga [.ref 2,mD A t] S) (OtQ ns c A t S):=by
 refine (ydj h hc ok).mono ?_
 rintro v S4 ⟨k,g2,od,g3,rfl,k2,h24,cp,nm,p4,f4⟩
 have ok2:=cp.ok ok h24
 exact ⟨g3,rfl,nm.ok ok2,⟨_,yd2 ok cp nm,List.mem_map.mpr ⟨0,List.mem_range.mpr ok2.r1,by rw [Nat.zero_mod,List.getD_eq_getElem?_getD,nm.z];rfl⟩⟩,p4⟩
theorem law_true (ns:List Int) (hl:ns.length<=63):∃S',zgb [.ref 0] [.flst (ns.map D.int)]=some (.bl true,S'):=by
 have sz:=zcv
 suffices h:Wo (zgb [.ref 0] [.flst (ns.map D.int)]) fun v S'=>v=.bl true by
  obtain ⟨v,S',e,rfl⟩:=h
  exact ⟨S',e⟩
 unfold zgb zr2
 simp only [zbg,List.map_cons,List.map_nil,List.length_cons,List.length_nil,Nat.reduceAdd,Nat.reduceSub,List.replicate,List.cons_append,List.nil_append]
 refine zax (fun l S=>l=[some (.ref 0),some (.ref 2),none,none,none,none,none,none,none]/\PQ ns 0 S) ?_ ?_
 ·simp only [zbq,zb4,zbv,zcb,zan,qg0,zcd]
  unfold zix zr1
  simp! only [zan]
  rw [yca (yd5 (n:=0) rfl),yd4 ns hl]
  first|exact ⟨by omega,(by first|rfl|trivial),(by first|rfl|trivial),0,0,rfl,rfl,by decide,by decide,by decide⟩|exact ⟨by show 3<=sizeLine;omega,(by first|rfl|trivial),(by first|rfl|trivial),0,0,rfl,rfl,by decide,by decide,by decide⟩
 rintro l S ⟨rfl,p0⟩
 refine zgw (fun l S=>True) (fun d S=>False) ?_ ?_ (fun d l1 S1 o=>o.elim)
 ·refine zkb (fun u l S1=>(∃x2 x3 x4 x5 x6 x7 x8,l=[some (.ref 0),some (.ref 2),x2,x3,x4,x5,x6,x7,x8])/\PQ ns (10000*u) S1) (fun _ _=>False) (n:=3) rfl (by decide) ⟨⟨_,_,_,_,_,_,_,rfl⟩,p0⟩ ?_ (fun l' S' _=>.inl ⟨rfl,trivial⟩) (fun d l' S' z=>z.elim)
  rintro u l S1 hu ⟨⟨x2,x3,x4,x5,x6,x7,x8,rfl⟩,p1⟩
  simp only [zba,qs0,qs1]
  refine zax (fun l S'=>∃w:Nat,w<4/\PQ ns (10000*u+1) S'/\l=[some (.ref 0),some (.ref 2),some (.int (u:Int)),some (.int (w:Int)),x4,x5,x6,x7,x8]) ?_ ?_
  ·simp! only [zan]
   refine (zbo p1 (by omega) (by decide) (by decide)).mono ?_
   rintro v S2 ⟨d,rfl,hd,p2,f2⟩
   first|exact ⟨(by first|rfl|trivial),d,by omega,p2,rfl⟩|exact ⟨d,by omega,p2,rfl⟩
  rintro l S2 ⟨w,hw,p2,rfl⟩
  refine zax (fun l S'=>∃(A:Nat) (t:List (List Cl)),OkM A t/\PQ ns (10000*u+610) S'/\l=[some (.ref 0),some (.ref 2),some (.int (u:Int)),some (.int (w:Int)),some (mD A t),x5,x6,x7,x8]) ?_ ?_
  ·simp! only [zan]
   refine (zbo p2 (by omega) (by decide) (by decide)).mono ?_
   rintro v S3 ⟨d,rfl,hd,p3,f3⟩
   simp! only [zan]
   refine (zbo p3 (by omega) (by decide) (by decide)).mono ?_
   rintro v S4 ⟨e,rfl,he,p4,f4⟩
   simp! only [zan]
   rw [show (1:Int)+(d:Int)=((1+d:Nat):Int) by omega,show (1:Int)+(e:Int)=((1+e:Nat):Int) by omega]
   refine (yc9 p4 (by omega) (by omega) (by omega) (by omega) (by omega)).mono ?_
   rintro v S5 ⟨t,rfl,ok,tl,p5,f5⟩
   first|exact ⟨(by first|rfl|trivial),1+d,t,ok,p5.mono (by omega),rfl⟩|exact ⟨1+d,t,ok,p5.mono (by omega),rfl⟩
  rintro l S3 ⟨A,t,ok,p3,rfl⟩
  refine zax (fun l S'=>∃(g:List (List Cl)),OkM A g/\Sim A t g/\PQ ns (10000*u+1200) S'/\l=[some (.ref 0),some (.ref 2),some (.int (u:Int)),some (.int (w:Int)),some (mD A t),some (mD A g),x6,x7,x8]) ?_ ?_
  ·simp! only [zan]
   refine (zst p3 (by omega) ok).mono ?_
   rintro v S4 ⟨g,rfl,okg,sim,p4⟩
   first|exact ⟨(by first|rfl|trivial),g,okg,sim,p4.mono (by omega),rfl⟩|exact ⟨g,okg,sim,p4.mono (by omega),rfl⟩
  rintro l S4 ⟨g,okg,simg,p4,rfl⟩
  refine zax (fun l S'=>∃(g:List (List Cl)),OkM A g/\(1<w->Sim A t g)/\PQ ns (10000*u+1300) S'/\l=[some (.ref 0),some (.ref 2),some (.int (u:Int)),some (.int (w:Int)),some (mD A t),some (mD A g),x6,x7,x8]) ?_ ?_
  ·refine zd8 (fun k S'=>S' = S4/\(k=true->w=0)) ?_ ?_ ?_
   ·simp_all! only [zan]
    first|exact ⟨(by first|rfl|trivial),fun z=>by have:=of_decide_eq_true z;omega⟩|exact ⟨_,rfl,(by first|rfl|trivial),fun z=>by have:=of_decide_eq_true z;omega⟩|(simp;done)|(simp;omega)
   ·rintro S5 ⟨rfl,hw0⟩
    have hw0:=hw0 rfl
    simp! only [zan]
    refine (zsg p4 (by omega) okg).mono ?_
    rintro v S7 ⟨g',rfl,ok',gl',p7,f7⟩
    first|exact ⟨(by first|rfl|trivial),g',ok',fun z=>absurd z (by omega),p7.mono (by omega),rfl⟩|exact ⟨g',ok',fun z=>absurd z (by omega),p7.mono (by omega),rfl⟩
   ·rintro S5 ⟨rfl,_⟩
    simp! only [zan]
    first|exact ⟨(by first|rfl|trivial),g,okg,fun _=>simg,p4.mono (by omega),rfl⟩|exact ⟨g,okg,fun _=>simg,p4.mono (by omega),rfl⟩
  clear okg simg p4
  rintro l S5 ⟨g,okg,simg,p5,rfl⟩
  refine zax (fun l S'=>∃(h:List (List Cl)),OkM A h/\Sim A g h/\PQ ns (10000*u+2000) S'/\l=[some (.ref 0),some (.ref 2),some (.int (u:Int)),some (.int (w:Int)),some (mD A t),some (mD A g),some (mD A h),x7,x8]) ?_ ?_
  ·simp! only [zan]
   refine (zst p5 (by omega) okg).mono ?_
   rintro v S6 ⟨h,rfl,okh,sim,p6⟩
   first|exact ⟨(by first|rfl|trivial),h,okh,sim,p6.mono (by omega),rfl⟩|exact ⟨h,okh,sim,p6.mono (by omega),rfl⟩
  rintro l S6 ⟨h,okh,simh,p6,rfl⟩
  refine zax (fun l S'=>∃(h:List (List Cl)),OkM A h/\(1<w->Sim A g h)/\PQ ns (10000*u+2100) S'/\l=[some (.ref 0),some (.ref 2),some (.int (u:Int)),some (.int (w:Int)),some (mD A t),some (mD A g),some (mD A h),x7,x8]) ?_ ?_
  ·refine zd8 (fun k S'=>S' = S6/\(k=true->w=1)) ?_ ?_ ?_
   ·simp_all! only [zan]
    first|exact ⟨(by first|rfl|trivial),fun z=>by have:=of_decide_eq_true z;omega⟩|exact ⟨_,rfl,(by first|rfl|trivial),fun z=>by have:=of_decide_eq_true z;omega⟩|(simp;done)|(simp;omega)
   ·rintro S7 ⟨rfl,hw0⟩
    have hw0:=hw0 rfl
    simp! only [zan]
    refine (zsg p6 (by omega) okh).mono ?_
    rintro v S7 ⟨g',rfl,ok',gl',p7,f7⟩
    first|exact ⟨(by first|rfl|trivial),g',ok',fun z=>absurd z (by omega),p7.mono (by omega),rfl⟩|exact ⟨g',ok',fun z=>absurd z (by omega),p7.mono (by omega),rfl⟩
   ·rintro S7 ⟨rfl,_⟩
    simp! only [zan]
    first|exact ⟨(by first|rfl|trivial),h,okh,fun _=>simh,p6.mono (by omega),rfl⟩|exact ⟨h,okh,fun _=>simh,p6.mono (by omega),rfl⟩
  clear okh simh p6
  rintro l S7 ⟨h,okh,simh,p7,rfl⟩
  refine zax (fun l S'=>PQ ns (10000*u+2100) S'/\∃n x y z,S'[n]? = some (.lst [.bl x,.bl y,.bl z])/\(x=true↔Sim A t g)/\(y=true↔Sim A g h)/\(z=true↔Sim A t h)/\l=[some (.ref 0),some (.ref 2),some (.int (u:Int)),some (.int (w:Int)),some (mD A t),some (mD A g),some (mD A h),some (.ref n),x8]) ?_ ?_
  ·simp! only [zan]
   refine (zhz ok okg).mono ?_
   rintro v T1 hT1
   obtain ⟨x,rfl,g1,hx⟩:=hT1.of
   refine (zhz okg okh).mono ?_
   rintro v T2 hT2
   obtain ⟨y,rfl,g2,hy⟩:=hT2.of
   refine (zhz ok okh).mono ?_
   rintro v T3 hT3
   obtain ⟨z,rfl,g3,hz⟩:=hT3.of
   have g4:=(g1.trans g2).trans g3
   refine ⟨by show 3<=sizeLine;omega,(by first|rfl|trivial),(p7.gr g4).gr ⟨_,rfl⟩,_,x,y,z,zb9,hx,hy,hz,(by first|rfl|trivial)⟩
  rintro l S8 ⟨p8,n,x,y,z,hn,hx,hy,hz,rfl⟩
  have hz2:x=true->y=true->z=true:=fun h1 h2=>by
   obtain ⟨R1,s1,z1⟩:=hx.mp h1
   obtain ⟨R2,s2,z2⟩:=hy.mp h2
   exact hz.mpr (s1.comp s2 z1 z2)
  have hw3:1<w->(x && y && z)=true:=fun hw1=>by
   have h1:=hx.mpr (simg hw1)
   have h2:=hy.mpr (simh hw1)
   rw [h1,h2,hz2 h1 h2];rfl
  refine za0 (l':=[some (.ref 0),some (.ref 2),some (.int (u:Int)),some (.int (w:Int)),some (mD A t),some (mD A g),some (mD A h),some (.ref n),x8]) (S':=S8) ?_ ?_
  ·refine zd8 (fun k S'=>k=false/\S' = S8) ?_ (fun S9 z=>by cases z.1) ?_
   ·have a0:L2.atI [D.bl x,.bl y,.bl z] 0=some (.bl x):=rfl
    have a1:L2.atI [D.bl x,.bl y,.bl z] 1=some (.bl y):=rfl
    have a2:L2.atI [D.bl x,.bl y,.bl z] 2=some (.bl z):=rfl
    simp_all! only [yd8 (zbh hn),yd9 (zbh hn),zbh hn,a0,a1,a2,Bool.false_eq_true,if_false]
    by_cases hw1:(1:Int)<(w:Int)
    ·have h3:=hw3 (by omega)
     cases x <;> cases y <;> cases z <;> simp_all
    ·cases x <;> cases y <;> cases z <;> simp_all
   ·rintro S9 ⟨_,rfl⟩
    simp! only [zan]
    first|exact ⟨(by first|rfl|trivial),(by first|rfl|trivial),(by first|rfl|trivial)⟩|exact ⟨(by first|rfl|trivial),(by first|rfl|trivial)⟩
  refine zax (fun l S'=>PQ ns (10000*u+2100) S'/\l=[some (.ref 0),some (.ref 2),some (.int (u:Int)),some (.int (w:Int)),some (mD A t),some (mD A g),some (mD A h),some (.ref n),x8]) ?_ ?_
  ·refine zd8 (fun k S'=>k=false/\PQ ns (10000*u+2100) S') ?_ (fun S9 z=>by cases z.1) ?_
   ·simp_all! only [zan]
    refine (zhz okg ok).mono ?_
    rintro v T1 hT1
    obtain ⟨x1,rfl,g1,_⟩:=hT1.of
    simp only [zch,Bool.false_eq_true,if_false]
    first
     | (refine (zhz okh ok).mono ?_
        rintro v T2 hT2
        obtain ⟨x2,rfl,g2,_⟩:=hT2.of
        first|exact ⟨_,rfl,rfl,(p8.gr g1).gr g2⟩|exact ⟨rfl,(p8.gr g1).gr g2⟩)
     | (refine ⟨false,rfl,?_⟩
        refine (zhz okh ok).mono ?_
        rintro v T2 hT2
        obtain ⟨x2,rfl,g2,_⟩:=hT2.of
        first|exact ⟨_,rfl,rfl,(p8.gr g1).gr g2⟩|exact ⟨rfl,(p8.gr g1).gr g2⟩)
   ·rintro S9 ⟨_,p9⟩
    simp! only [zan]
    first|exact ⟨(by first|rfl|trivial),p9,(by first|rfl|trivial)⟩|exact ⟨p9,(by first|rfl|trivial)⟩
  rintro l S9 ⟨p9,rfl⟩
  refine zrh [mD A t,mD A g,mD A h] (fun i l S'=>(∃x8,l=[some (.ref 0),some (.ref 2),some (.int (u:Int)),some (.int (w:Int)),some (mD A t),some (mD A g),some (mD A h),some (.ref n),x8])/\PQ ns (10000*u+2100) S') (fun _ _=>False) (S1:=S9) rfl ⟨⟨_,rfl⟩,p9⟩ ?_ ?_ (fun d l' S' z=>z.elim)
  ·rintro i m l T hm ⟨⟨x8,rfl⟩,pT⟩
   have:∃k,m=mD A k/\OkM A k:=by
    have:=qmg hm
    simp at this
    rcases this with rfl|rfl|rfl
    ·exact ⟨t,rfl,ok⟩
    ·exact ⟨g,rfl,okg⟩
    ·exact ⟨h,rfl,okh⟩
   obtain ⟨k,rfl,okk⟩:=this
   simp only [zba,qs0,qs1]
   refine zd8 (fun b S'=>b=false/\PQ ns (10000*u+2100) S') ?_ (fun S9 z=>by cases z.1) ?_
   ·simp_all! only [zan]
    refine (yd7 okk).mono ?_
    rintro v T2 ⟨⟨x,rfl⟩,g2⟩
    simp_all! only [decide_true,Bool.not_true]
    first|exact ⟨(by first|rfl|trivial),pT.gr g2⟩|exact ⟨_,rfl,(by first|rfl|trivial),pT.gr g2⟩|simp [pT.gr g2]
   ·rintro T2 ⟨_,p2⟩
    simp! only [zan]
    exact .inl ⟨(by first|exact .inl rfl|exact .inl trivial|trivial),⟨_,rfl⟩,p2⟩
  ·rintro l' S' ⟨⟨x8,rfl⟩,pT⟩
   exact .inl ⟨.inl rfl,⟨_,_,_,_,_,_,_,rfl⟩,pT.mono (by omega)⟩
 ·rintro l S1 _
  simp! only [zan]
end M
noncomputable def PySem.W.Fast.tw7312749367197774700 : Nat := 0
noncomputable def PySem.W.Fast.tw13972100935591493678 : Nat := 0
noncomputable def PySem.W.Fast.tw9582610030035248350 : Nat := 0
noncomputable def PySem.W.Fast.tw12374555562110548907 : Nat := 0
noncomputable def PySem.W.Fast.tw1996851071920316292 : Nat := 0
noncomputable def PySem.W.Fast.tw2334565357648266680 : Nat := 0
noncomputable def PySem.W.Fast.tw15566935597585169562 : Nat := 0
noncomputable def PySem.W.Fast.tw16348842963730250157 : Nat := 0
noncomputable def PySem.W.Fast.tw17178175147325142937 : Nat := 0
noncomputable def PySem.W.Fast.tw14299197985675345791 : Nat := 0
noncomputable def PySem.W.Fast.tw5629256652958107001 : Nat := 0
noncomputable def PySem.W.Fast.tw6126626868128722239 : Nat := 0
noncomputable def PySem.W.Fast.tw508699260878343104 : Nat := 0
noncomputable def PySem.W.Fast.tw728046478717419193 : Nat := 0
noncomputable def PySem.W.Fast.tw7768327150952028575 : Nat := 0
noncomputable def PySem.W.Fast.tw14900416346853322002 : Nat := 0
noncomputable def PySem.W.Fast.tw17700356734952137620 : Nat := 0
noncomputable def PySem.W.Fast.tw9966901836786831466 : Nat := 0
noncomputable def PySem.W.Fast.tw14316861110730320995 : Nat := 0
noncomputable def PySem.W.Fast.tw15782923620723252478 : Nat := 0
noncomputable def PySem.W.Fast.tw5358618696289635545 : Nat := 0
noncomputable def PySem.W.Fast.tw16150919075442454938 : Nat := 0
noncomputable def PySem.W.Fast.tw9705439097513132985 : Nat := 0
noncomputable def PySem.W.Fast.tw14449990751648640969 : Nat := 0
noncomputable def PySem.W.Fast.tw12854645378970600619 : Nat := 0
noncomputable def PySem.W.Fast.tw8309809533812285014 : Nat := 0
noncomputable def PySem.W.Fast.tw9230523917254303452 : Nat := 0
noncomputable def PySem.W.Fast.tw6086982776495349048 : Nat := 0
noncomputable def PySem.W.Fast.tw9874186604471865136 : Nat := 0
noncomputable def PySem.W.Fast.tw9326637868431192448 : Nat := 0
noncomputable def PySem.W.Fast.tw7196002799228815385 : Nat := 0
noncomputable def PySem.W.Fast.tw706301967926849984 : Nat := 0
noncomputable def PySem.W.Fast.tw6497834257704886375 : Nat := 0
noncomputable def PySem.W.Fast.tw6032673786459536076 : Nat := 0
noncomputable def PySem.W.Fast.tw3436395264038121775 : Nat := 0
noncomputable def PySem.W.Fast.tw3149573899373184840 : Nat := 0
noncomputable def PySem.W.Fast.tw17101193111190788607 : Nat := 0
noncomputable def PySem.W.Fast.tw16014286047115473146 : Nat := 0
noncomputable def PySem.W.Fast.tw15346655323241538517 : Nat := 0
noncomputable def PySem.W.Fast.tw15326492969067212214 : Nat := 0
noncomputable def PySem.W.Fast.tw13917257618461337775 : Nat := 0
noncomputable def PySem.W.Fast.tw11109826829821881226 : Nat := 0
noncomputable def PySem.W.Fast.tw10845543625091705926 : Nat := 0
noncomputable def PySem.W.Fast.tw10154245329186701203 : Nat := 0
open PySem PySem.W PyProof.Rows
theorem PySem.Challenge.cw_opencells_k20_whole_standing_goes_on_holds : PySem.Challenge.rw_opencells_k20_whole_standing_goes_on.Holds := by
 w_on;o_law;k_head;(case hw=>w_witness2)
 k_fill
 refine G.walk (l:=PySem.Challenge.rw_opencells_k20_whole_standing_goes_on) rfl rfl (fun w h Y=>PySem.W.kIn_of Y) ?F (fun ns hl=>M.law_true ns hl)
 case F =>
  intro w mg fa h KX GN hmg
  refine' G.all_mk KX GN hmg ?_ ?_ ?_ ?_ ?_ ?_ ?_ ?_ ?_ ?_ ?_ ?_ ?_ ?_ ?_ ?_ ?_ ?_ ?_ ?_ ?_ ?_ ?_ ?_ ?_ ?_ ?_ ?_ ?_ ?_ ?_ ?_ ?_ ?_ ?_ ?_ ?_ ?_ ?_ ?_ ?_ ?_ ?_ ?_ ?_ ?_ ?_ ?_ ?_ ?_ ?_ ?_ ?_ ?_ ?_ ?_ ?_ ?_ ?_ ?_ ?_ ?_ ?_ ?_ ?_ ?_ ?_ ?_ ?_ ?_ ?_ ?_ ?_ ?_ ?_ ?_ ?_ ?_ ?_ ?_ ?_ ?_ ?_ ?_ ?_ ?_ ?_ ?_ ?_
  all_goals try k_is
#print axioms PySem.Challenge.cw_opencells_k20_whole_standing_goes_on_holds