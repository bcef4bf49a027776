import PyProof.Rows.All
import Wide.All
import OpenK.AllK
import Wide.FinOn
import Lean
import PyProof.EqAt
import PyProof.EqKinds
import PyProof.TupleCall
import PyProof.ReprLen
import PyProof.ReprRoads
import PyProof.P3Eq
import PyProof.SetRoads
import PyProof.IsRules
import PyProof.ListRange
import PyProof.ConsumeWalk
import PyProof.NeKinds
import PyProof.DictTable
import PyProof.Draws
import PyProof.EnumMake
import KE.BitLaws
import KE.KIntText
import KE.KRevIter
import PyProof.Rows.SumAny
import PyProof.StrLawsRepr
import PyProof.Rows.SortStrRead
import PyProof.DictCompW
import PyProof.StrOps2
import PyProof.DictWalks
import OpenK.KOwn
import PyProof.NsDelKeeps
import PyProof.RulesAs
import KE.KIsAll
import PyProof.ExcArgsOwn
import PyProof.ExcAttrAll.ValueError
import PyProof.TupleKey
import PyProof.DictRoadsH
import KE.KSortTup
import KE.KDictSum
import PyProof.Rows.TupDisplay
import PySem.Challenge.RW_opencells_k36_trees_told
set_option Elab.async false
set_option maxHeartbeats 4000000
set_option maxRecDepth 100000
set_option linter.unusedSimpArgs false
set_option linter.unusedVariables false
namespace TS
open PySem PySem.SetTable
def F : Nat → Nat → Nat
  | 0, x => x
  | n + 1, x => 5 * F n x + 1
theorem F_add (a : Nat) : ∀ (b x : Nat), F (a + b) x = F a (F b x) := by
  induction a with
  | zero => intro b x; rw [Nat.zero_add]; rfl
  | succ a ih => intro b x; rw [show a + 1 + b = (a + b) + 1 by omega]; show 5 * F (a + b) x + 1 = 5 * F a (F b x) + 1; rw [ih]
theorem F_lin (k : Nat) : ∃ u, ∀ x, F (2 ^ k) x = (4 * (2 ^ k * (2 * u + 1)) + 1) * x + 2 ^ k * (2 * u + 1) := by
  induction k with
  | zero => exact ⟨0, fun x => by show 5 * x + 1 = _; omega⟩
  | succ k ih =>
    obtain ⟨u, h⟩ := ih
    generalize hB : 2 ^ k * (2 * u + 1) = B at h
    refine ⟨2 * u * B + u + B, fun x => ?_⟩
    have e : 2 ^ (k + 1) = 2 ^ k + 2 ^ k := by rw [Nat.pow_succ]; omega
    rw [show F (2 ^ (k + 1)) x = F (2 ^ k) (F (2 ^ k) x) by rw [e]; exact F_add _ _ _, h, h]
    have e2 : 2 ^ (k + 1) * (2 * (2 * u * B + u + B) + 1) = 2 * B * (2 * B + 1) := by
      rw [Nat.pow_succ, ← hB]
      generalize 2 ^ k = p
      grind
    rw [e2]
    clear e2 h hB
    grind
theorem mod_two {M a b : Nat} (hM : 0 < M) (h : a % M = b % M) (h2 : a % (2 * M) ≠ b % (2 * M)) : (a + M) % (2 * M) = b % (2 * M) := by
  have key : ∀ x, x % (2 * M) = x % M ∨ x % (2 * M) = x % M + M := fun x => by
    have e1 : x % (2 * M) < 2 * M := Nat.mod_lt _ (by omega)
    have e2 : x % (2 * M) % M = x % M := Nat.mod_mod_of_dvd x ⟨2, Nat.mul_comm _ _⟩
    by_cases hl : x % (2 * M) < M
    · left; rw [← e2, Nat.mod_eq_of_lt hl]
    · right
      have e3 : x % (2 * M) % M = (x % (2 * M) - M) % M := Nat.mod_eq_sub_mod (by omega)
      have e4 : (x % (2 * M) - M) % M = x % (2 * M) - M := Nat.mod_eq_of_lt (by omega)
      rw [← e2, e3, e4]; omega
  have hb := Nat.mod_lt b hM
  rw [Nat.add_mod, Nat.mod_eq_of_lt (show M < 2 * M by omega)]
  rcases key a with ha | ha <;> rcases key b with hb2 | hb2
  · omega
  · rw [ha, Nat.mod_eq_of_lt (by omega)]; omega
  · rw [ha, hb2, show a % M + M + M = a % M + 2 * M by omega, Nat.add_mod_right, Nat.mod_eq_of_lt (by omega)]; omega
  · omega
theorem F_surj (k : Nat) : ∀ x y : Nat, ∃ n, n < 2 ^ k ∧ F n x % 2 ^ k = y % 2 ^ k := by
  induction k with
  | zero => intro x y; exact ⟨0, by decide, by simp [Nat.mod_one]⟩
  | succ k ih =>
    intro x y
    obtain ⟨n, hn, h⟩ := ih x y
    have e : 2 ^ (k + 1) = 2 * 2 ^ k := by rw [Nat.pow_succ, Nat.mul_comm]
    have hM : 0 < 2 ^ k := Nat.two_pow_pos k
    rw [e]
    by_cases h2 : F n x % (2 * 2 ^ k) = y % (2 * 2 ^ k)
    · exact ⟨n, by omega, h2⟩
    · refine ⟨2 ^ k + n, by omega, ?_⟩
      obtain ⟨u, hl⟩ := F_lin k
      rw [F_add, hl]
      generalize F n x = z at h h2
      generalize 2 ^ k = M at *
      have e3 : (4 * (M * (2 * u + 1)) + 1) * z + M * (2 * u + 1) = z + M + 2 * M * (u + 2 * z * (2 * u + 1)) := by
        grind
      rw [e3, Nat.add_mul_mod_self_left]
      exact mod_two hM h h2
def adv (mask : Nat) (p : Probe) : Probe :=
  if p.more > 0 then { p with j := p.j + 1, more := p.more - 1 } else
  let (i, perturb) := leap mask p.i p.perturb
  { p with j := i, more := runEnd mask i - i, i, perturb }
def st0 (mask : Nat) (h : Int) : Probe := { j := bits h % (mask + 1), more := runEnd mask (bits h % (mask + 1)) - bits h % (mask + 1), i := bits h % (mask + 1), perturb := bits h, dummy := none }
def pn (mask : Nat) (h : Int) : Nat → Probe
  | 0 => st0 mask h
  | n + 1 => adv mask (pn mask h n)
def bl (mask : Nat) (h : Int) : Nat → Nat × Nat
  | 0 => (bits h % (mask + 1), bits h)
  | n + 1 => leap mask (bl mask h n).1 (bl mask h n).2
def ss (mask : Nat) (h : Int) : Nat → Nat
  | 0 => 0
  | n + 1 => ss mask h n + (runEnd mask (bl mask h n).1 - (bl mask h n).1) + 1
def blk (mask : Nat) (b : Nat × Nat) : Probe := { j := b.1, more := runEnd mask b.1 - b.1, i := b.1, perturb := b.2, dummy := none }
theorem pn_in {mask : Nat} {h : Int} {s : Nat} {b : Nat × Nat} (e : pn mask h s = blk mask b) : ∀ d, d ≤ runEnd mask b.1 - b.1 → pn mask h (s + d) = { j := b.1 + d, more := runEnd mask b.1 - b.1 - d, i := b.1, perturb := b.2, dummy := none }
  | 0, _ => by rw [Nat.add_zero, e]; rfl
  | d + 1, hd => by
    show adv mask (pn mask h (s + d)) = _
    rw [pn_in e d (by omega)]
    unfold adv
    rw [if_pos (by show runEnd mask b.1 - b.1 - d > 0; omega)]
    simp only [Probe.mk.injEq, and_true]
    exact ⟨by omega, by omega⟩
theorem pn_ss (mask : Nat) (h : Int) : ∀ n, pn mask h (ss mask h n) = blk mask (bl mask h n)
  | 0 => rfl
  | n + 1 => by
    have e := pn_in (pn_ss mask h n) (runEnd mask (bl mask h n).1 - (bl mask h n).1) (Nat.le_refl _)
    show adv mask (pn mask h (ss mask h n + (runEnd mask (bl mask h n).1 - (bl mask h n).1))) = _
    rw [e]
    unfold adv
    rw [if_neg (by show ¬ (runEnd mask (bl mask h n).1 - (bl mask h n).1 - (runEnd mask (bl mask h n).1 - (bl mask h n).1)) > 0; omega)]
    rfl
theorem runEnd_le (mask i : Nat) : runEnd mask i - i ≤ 9 := by unfold runEnd; split <;> omega
theorem ss_le (mask : Nat) (h : Int) : ∀ n, ss mask h n ≤ 10 * n
  | 0 => Nat.le_refl _
  | n + 1 => by have := ss_le mask h n; have := runEnd_le mask (bl mask h n).1; show ss mask h n + _ + 1 ≤ _; omega
theorem bl_per (mask : Nat) (h : Int) : ∀ n, (bl mask h n).2 = bits h / 32 ^ n
  | 0 => by show bits h = _; simp
  | n + 1 => by show (bl mask h n).2 / 32 = _; rw [bl_per mask h n, Nat.div_div_eq_div_mul, Nat.pow_succ]
theorem bits_lt (h : Int) : bits h < 2 ^ 64 := by
  unfold bits
  have h1 := Int.emod_nonneg h (show (2 ^ 64 : Int) ≠ 0 by decide)
  have h2 := Int.emod_lt_of_pos h (show (0 : Int) < 2 ^ 64 by decide)
  omega
theorem bl_zero (mask : Nat) (h : Int) (n : Nat) : (bl mask h (13 + n)).2 = 0 := by
  rw [bl_per]
  apply Nat.div_eq_of_lt
  have := bits_lt h
  have e : 2 ^ 65 ≤ 32 ^ (13 + n) := by
    rw [Nat.pow_add, show (32 : Nat) ^ 13 = 2 ^ 65 by decide]
    exact Nat.le_mul_of_pos_right _ (Nat.pow_pos (by decide))
  have : (2 : Nat) ^ 64 < 2 ^ 65 := by decide
  omega
theorem bl_lt (mask : Nat) (h : Int) : ∀ n, (bl mask h n).1 ≤ mask
  | 0 => by have := Nat.mod_lt (bits h) (show 0 < mask + 1 by omega); show bits h % (mask + 1) ≤ mask; omega
  | n + 1 => by have := Nat.mod_lt ((bl mask h n).1 * 5 + 1 + (bl mask h n).2 / 32) (show 0 < mask + 1 by omega); show ((bl mask h n).1 * 5 + 1 + (bl mask h n).2 / 32) % (mask + 1) ≤ mask; omega
theorem bl_F (mask : Nat) (h : Int) : ∀ n, (bl mask h (13 + n)).1 = F n (bl mask h 13).1 % (mask + 1)
  | 0 => by have := bl_lt mask h 13; exact (Nat.mod_eq_of_lt (by show (bl mask h 13).1 < mask + 1; omega)).symm
  | n + 1 => by
    show ((bl mask h (13 + n)).1 * 5 + 1 + (bl mask h (13 + n)).2 / 32) % (mask + 1) = (5 * F n _ + 1) % (mask + 1)
    rw [bl_F mask h n, bl_zero, Nat.zero_div, Nat.add_zero, Nat.mul_comm (F n _ % (mask + 1)) 5]
    rw [Nat.add_mod, Nat.mul_mod, Nat.mod_mod, ← Nat.mul_mod, ← Nat.add_mod]
theorem reach {mask k : Nat} (hk : mask + 1 = 2 ^ k) (h : Int) {e : Nat} (he : e ≤ mask) : ∃ n, n < mask + 14 ∧ (bl mask h n).1 = e := by
  obtain ⟨n, hn, hf⟩ := F_surj k (bl mask h 13).1 e
  refine ⟨13 + n, by omega, ?_⟩
  rw [bl_F, hk, hf, ← hk]
  exact Nat.mod_eq_of_lt (by omega)
theorem runEnd_in {mask i : Nat} (h : i ≤ mask) : runEnd mask i ≤ mask := by unfold runEnd; split <;> omega
theorem pn_le (mask : Nat) (h : Int) (n : Nat) : (pn mask h n).j ≤ mask ∧ (pn mask h n).j + (pn mask h n).more ≤ mask ∧ (pn mask h n).dummy = none := by
  induction n with
  | zero =>
    have h1 : bits h % (mask + 1) ≤ mask := by have := Nat.mod_lt (bits h) (show 0 < mask + 1 by omega); omega
    have h2 := runEnd_in h1
    refine ⟨h1, ?_, rfl⟩
    show bits h % (mask + 1) + (runEnd mask (bits h % (mask + 1)) - bits h % (mask + 1)) ≤ mask
    omega
  | succ n ih =>
    obtain ⟨i1, i2, i3⟩ := ih
    show (adv mask (pn mask h n)).j ≤ mask ∧ (adv mask (pn mask h n)).j + (adv mask (pn mask h n)).more ≤ mask ∧ (adv mask (pn mask h n)).dummy = none
    unfold adv
    by_cases hm : (pn mask h n).more > 0
    · rw [if_pos hm]
      exact ⟨by show (pn mask h n).j + 1 ≤ mask; omega, by show (pn mask h n).j + 1 + ((pn mask h n).more - 1) ≤ mask; omega, i3⟩
    · rw [if_neg hm]
      have h1 : (leap mask (pn mask h n).i (pn mask h n).perturb).1 ≤ mask := by
        have := Nat.mod_lt ((pn mask h n).i * 5 + 1 + (pn mask h n).perturb / 32) (show 0 < mask + 1 by omega)
        show ((pn mask h n).i * 5 + 1 + (pn mask h n).perturb / 32) % (mask + 1) ≤ mask
        omega
      have h2 := runEnd_in h1
      exact ⟨h1, by show (leap mask (pn mask h n).i (pn mask h n).perturb).1 + (runEnd mask (leap mask (pn mask h n).i (pn mask h n).perturb).1 - (leap mask (pn mask h n).i (pn mask h n).perturb).1) ≤ mask; omega, i3⟩
end TS
namespace TS
open PySem PySem.SetTable
def Ris (xs : Array Nat) : Prop := ∀ i j, i < j → j < xs.size → xs.getD i 0 < xs.getD j 0
theorem getD_any {xs : Array Nat} {i : Nat} (h : i < xs.size) (d e : Nat) : xs.getD i d = xs.getD i e := by simp [Array.getD, h]
theorem getD_get {xs : Array Nat} {i : Nat} (h : i < xs.size) (d : Nat) : xs[i]? = some (xs.getD i d) := by simp [Array.getD, h]
theorem get_getD {xs : Array Nat} {i j : Nat} (h : xs[i]? = some j) (d : Nat) : i < xs.size ∧ xs.getD i d = j := by
  obtain ⟨h1, h2⟩ := Array.getElem?_eq_some_iff.mp h
  exact ⟨h1, by simp [Array.getD, h1, h2]⟩
theorem below_go {xs : Array Nat} (hr : Ris xs) (j : Nat) : ∀ (fuel lo hi : Nat), lo ≤ hi → hi ≤ xs.size → hi - lo ≤ fuel → (∀ i, i < lo → xs.getD i 0 < j) → (∀ i, hi ≤ i → i < xs.size → j ≤ xs.getD i 0) →
    below.go xs j fuel lo hi ≤ xs.size ∧ (∀ i, i < below.go xs j fuel lo hi → xs.getD i 0 < j) ∧ ∀ i, below.go xs j fuel lo hi ≤ i → i < xs.size → j ≤ xs.getD i 0 := by
  intro fuel
  induction fuel with
  | zero =>
    intro lo hi h1 h2 h3 h4 h5
    have e : lo = hi := by omega
    subst e
    exact ⟨h2, h4, h5⟩
  | succ fuel ih =>
    intro lo hi h1 h2 h3 h4 h5
    unfold below.go
    by_cases hl : lo < hi
    · rw [if_pos hl]
      dsimp only
      have hm1 : (lo + hi) / 2 < hi := by omega
      have hm2 : lo ≤ (lo + hi) / 2 := by omega
      have hms : (lo + hi) / 2 < xs.size := by omega
      rw [getD_any hms j 0]
      by_cases hx : xs.getD ((lo + hi) / 2) 0 < j
      · rw [if_pos hx]
        refine ih _ _ (by omega) h2 (by omega) (fun i hi' => ?_) h5
        by_cases e : i = (lo + hi) / 2
        · rw [e]; exact hx
        · exact Nat.lt_trans (hr i _ (by omega) hms) hx
      · rw [if_neg hx]
        refine ih _ _ hm2 (by omega) (by omega) h4 fun i hi1 hi2 => ?_
        by_cases e : i = (lo + hi) / 2
        · rw [e]; omega
        · have := hr ((lo + hi) / 2) i (by omega) hi2
          omega
    · rw [if_neg hl]
      have e : lo = hi := by omega
      subst e
      exact ⟨h2, h4, h5⟩
theorem below_ok {xs : Array Nat} (hr : Ris xs) (j : Nat) : below xs j ≤ xs.size ∧ (∀ i, i < below xs j → xs.getD i 0 < j) ∧ ∀ i, below xs j ≤ i → i < xs.size → j ≤ xs.getD i 0 :=
  below_go hr j xs.size 0 xs.size (Nat.zero_le _) (Nat.le_refl _) (by omega) (fun i h => absurd h (Nat.not_lt_zero _)) fun i h1 h2 => by omega
def In (t : SetTable) (j : Nat) : Prop := ∃ i : Nat, t.place[i]? = some j
structure TOk (t : SetTable) (es : Array (Int × Value)) : Prop where
  dm : t.dummies = #[]
  sz : t.place.size = es.size
  pw : ∃ k, t.mask + 1 = 2 ^ k ∧ 3 ≤ k
  ris : Ris t.place
  le : ∀ j, In t j → j ≤ t.mask
  ro : es.size * 5 < t.mask * 3
  sm : t.mask < 8192
  pr : ∀ (i : Nat) (h : Int) (v : Value), es[i]? = some (h, v) → ∃ n, t.place[i]? = some (pn t.mask h n).j ∧ ∀ m, m < n → In t (pn t.mask h m).j
theorem pigeon : ∀ (n : Nat) (f : Nat → Option Nat) , (∀ j, j < n + 1 → ∃ i, f j = some i ∧ i < n) → (∀ j j' i, j < n + 1 → j' < n + 1 → f j = some i → f j' = some i → j = j') → False
  | 0, f, h, _ => by obtain ⟨i, _, hi⟩ := h 0 (by omega); omega
  | n + 1, f, h, inj => by
    obtain ⟨a, ha, hal⟩ := h (n + 1) (by omega)
    refine pigeon n (fun j => (f j).map fun i => if i = n then a else i) (fun j hj => ?_) fun j j' i l1 l2 h1 h2 => ?_
    · obtain ⟨i, hi, hil⟩ := h j (by omega)
      refine ⟨if i = n then a else i, by simp [hi], ?_⟩
      split
      · rename_i e
        rcases Nat.lt_or_ge a n with h' | h'
        · exact h'
        · have : a = n := by omega
          have := inj (n + 1) j n (by omega) (by omega) (by rw [ha, this]) (by rw [hi, e])
          omega
      · omega
    · cases e1 : f j with
      | none => rw [e1] at h1; cases h1
      | some i1 =>
        cases e2 : f j' with
        | none => rw [e2] at h2; cases h2
        | some i2 =>
          rw [e1] at h1; rw [e2] at h2
          have h1 : (if i1 = n then a else i1) = i := by simpa using h1
          have h2 : (if i2 = n then a else i2) = i := by simpa using h2
          by_cases c1 : i1 = n <;> by_cases c2 : i2 = n
          · exact inj j j' n (by omega) (by omega) (by rw [e1, c1]) (by rw [e2, c2])
          · rw [if_pos c1] at h1; rw [if_neg c2] at h2
            have := inj (n + 1) j' i (by omega) (by omega) (by rw [ha, h1]) (by rw [e2, h2])
            omega
          · rw [if_neg c1] at h1; rw [if_pos c2] at h2
            have := inj (n + 1) j i (by omega) (by omega) (by rw [ha, h2]) (by rw [e1, h1])
            omega
          · rw [if_neg c1] at h1; rw [if_neg c2] at h2
            exact inj j j' i (by omega) (by omega) (by rw [e1, h1]) (by rw [e2, h2])
theorem first_empty {mask k : Nat} (hk : mask + 1 = 2 ^ k) (h : Int) (P : Nat → Prop) [DecidablePred P] {e : Nat} (he : e ≤ mask) (hP : ¬ P e) :
    ∃ N b, N ≤ ss mask h b ∧ b < mask + 14 ∧ ¬ P (pn mask h N).j ∧ ∀ m, m < N → P (pn mask h m).j := by
  obtain ⟨b, hb, hbe⟩ := reach hk h he
  have h0 : ¬ P (pn mask h (ss mask h b)).j := by rw [pn_ss]; show ¬ P (bl mask h b).1; rw [hbe]; exact hP
  have least : ∀ n, ¬ P (pn mask h n).j → ∃ N, N ≤ n ∧ ¬ P (pn mask h N).j ∧ ∀ m, m < N → P (pn mask h m).j := by
    intro n
    induction n using Nat.strongRecOn with
    | _ n ih =>
      intro hn
      by_cases c : ∃ m, m < n ∧ ¬ P (pn mask h m).j
      · obtain ⟨m, hm, hp⟩ := c
        obtain ⟨N, h1, h2⟩ := ih m hm hp
        exact ⟨N, by omega, h2⟩
      · exact ⟨n, Nat.le_refl _, hn, fun m hm => Decidable.byContradiction fun z => c ⟨m, hm, z⟩⟩
  obtain ⟨N, h1, h2, h3⟩ := least _ h0
  exact ⟨N, b, h1, hb, h2, h3⟩
open Classical in
theorem TOk.empty {t : SetTable} {es : Array (Int × Value)} (k : TOk t es) (h : Int) : ∃ N, N < 10 * (t.mask + 14) ∧ ¬ In t (pn t.mask h N).j ∧ ∀ m, m < N → In t (pn t.mask h m).j := by
  obtain ⟨n, h1, h2⟩ := k.pw
  have ex : ∃ e, e ≤ t.mask ∧ ¬ In t e := by
    refine Classical.byContradiction fun hc => ?_
    have all : ∀ e, e ≤ t.mask → In t e := fun e he => Classical.byContradiction fun z => hc ⟨e, he, z⟩
    refine pigeon t.mask (fun j => if hj : In t j then some hj.choose else none) (fun j hj => ?_) fun j j' i _ _ e1 e2 => ?_
    · have hi := all j (by omega)
      refine ⟨hi.choose, dif_pos hi, ?_⟩
      have := (get_getD hi.choose_spec 0).1
      have := k.sz; have := k.ro
      omega
    · split at e1
      · rename_i hj
        split at e2
        · rename_i hj'
          have q1 := hj.choose_spec
          have q2 := hj'.choose_spec
          rw [Option.some.inj e1] at q1
          rw [Option.some.inj e2] at q2
          rw [q1] at q2
          exact Option.some.inj q2
        · cases e2
      · cases e1
  obtain ⟨e, he, hne⟩ := ex
  obtain ⟨N, b, h3, h4, h5, h6⟩ := first_empty h1 h (In t) he hne
  have := ss_le t.mask h b
  exact ⟨N, by omega, h5, h6⟩
end TS
namespace TS
open PySem PySem.SetTable
theorem get_ins {α : Type} {xs : Array α} {p : Nat} {x : α} (hp : p ≤ xs.size) (i : Nat) : (insertAt xs p x)[i]? = if i < p then xs[i]? else if i = p then some x else xs[i - 1]? := by
  rw [← Array.getElem?_toList, toList_insertAt]
  have hl : (xs.toList.take p).length = p := by rw [List.length_take, Array.length_toList]; omega
  by_cases h1 : i < p
  · rw [if_pos h1, List.getElem?_append_left (by omega), List.getElem?_take_of_lt h1, Array.getElem?_toList]
  · rw [if_neg h1, List.getElem?_append_right (by omega), hl]
    by_cases h2 : i = p
    · rw [if_pos h2, h2, Nat.sub_self]; rfl
    · rw [if_neg h2, show i - p = (i - p - 1) + 1 by omega, List.getElem?_cons_succ, List.getElem?_drop, Array.getElem?_toList]
      congr 1; omega
theorem size_ins {α : Type} {xs : Array α} {p : Nat} {x : α} : (insertAt xs p x).size = xs.size + 1 := by
  rw [← Array.length_toList, (insertAt_perm xs p x).length_eq]; simp
theorem has_nil (j : Nat) : has #[] j = false := by simp [has]
theorem put_eq {t : SetTable} (hd : t.dummies = #[]) (j : Nat) : t.put j = ({ t with place := insertAt t.place (below t.place j) j }, below t.place j) := by
  unfold put
  rw [hd, has_nil]
  cases t
  simp only at hd
  subst hd
  rfl
theorem ins_in {t : SetTable} (hr : Ris t.place) (j : Nat) (x : Nat) : In { t with place := insertAt t.place (below t.place j) j } x ↔ x = j ∨ In t x := by
  have hb := (below_ok hr j).1
  constructor
  · rintro ⟨i, hi⟩
    have hi : (insertAt t.place (below t.place j) j)[i]? = some x := hi
    rw [get_ins hb] at hi
    split at hi
    · exact .inr ⟨i, hi⟩
    · split at hi
      · exact .inl (Option.some.inj hi).symm
      · exact .inr ⟨_, hi⟩
  · rintro (rfl | ⟨i, hi⟩)
    · refine ⟨below t.place x, ?_⟩
      show (insertAt t.place (below t.place x) x)[_]? = some x
      rw [get_ins hb, if_neg (Nat.lt_irrefl _), if_pos rfl]
    · by_cases c : i < below t.place j
      · exact ⟨i, by show (insertAt t.place (below t.place j) j)[i]? = some x; rw [get_ins hb, if_pos c]; exact hi⟩
      · exact ⟨i + 1, by show (insertAt t.place (below t.place j) j)[i + 1]? = some x; rw [get_ins hb, if_neg (by omega), if_neg (by omega)]; exact hi⟩
theorem ins_ris {xs : Array Nat} (hr : Ris xs) {j : Nat} (hj : ∀ i : Nat, xs[i]? ≠ some j) : Ris (insertAt xs (below xs j) j) := by
  obtain ⟨b1, b2, b3⟩ := below_ok hr j
  have b4 : ∀ i, below xs j ≤ i → i < xs.size → j < xs.getD i 0 := fun i h1 h2 => by
    have := b3 i h1 h2
    have : xs.getD i 0 ≠ j := fun e => hj i (by rw [getD_get h2 0, e])
    omega
  have g : ∀ i, i < (insertAt xs (below xs j) j).size → (insertAt xs (below xs j) j).getD i 0 = if i < below xs j then xs.getD i 0 else if i = below xs j then j else xs.getD (i - 1) 0 := fun i hi => by
    have q := get_ins (x := j) b1 i
    rw [getD_get hi 0] at q
    rw [size_ins] at hi
    split at q
    · rename_i c; rw [if_pos c]; exact ((get_getD q.symm 0).2).symm
    · rename_i c
      rw [if_neg c]
      split at q
      · rename_i c2; rw [if_pos c2]; exact Option.some.inj q
      · rename_i c2; rw [if_neg c2]; exact ((get_getD q.symm 0).2).symm
  intro a b hab hb
  rw [g a (by omega), g b hb]
  rw [size_ins] at hb
  by_cases c1 : a < below xs j
  · rw [if_pos c1]
    by_cases c2 : b < below xs j
    · rw [if_pos c2]; exact hr a b hab (by omega)
    · rw [if_neg c2]
      have := b2 a c1
      by_cases c3 : b = below xs j
      · rw [if_pos c3]; exact this
      · rw [if_neg c3]
        have := b4 (b - 1) (by omega) (by omega)
        omega
  · rw [if_neg c1, if_neg (show ¬ b < below xs j by omega), if_neg (show ¬ b = below xs j by omega)]
    by_cases c3 : a = below xs j
    · rw [if_pos c3]; exact b4 (b - 1) (by omega) (by omega)
    · rw [if_neg c3]; exact hr (a - 1) (b - 1) (by omega) (by omega)
theorem TOk.put {t : SetTable} {es : Array (Int × Value)} (k : TOk t es) {h : Int} {x : Value} {N : Nat} (hN : ¬ In t (pn t.mask h N).j) (hl : ∀ m, m < N → In t (pn t.mask h m).j) (hro : (es.size + 1) * 5 < t.mask * 3) :
    TOk (t.put (pn t.mask h N).j).1 (insertAt es (t.put (pn t.mask h N).j).2 (h, x)) := by
  rw [put_eq k.dm]
  have hb := (below_ok k.ris (pn t.mask h N).j).1
  have hbe := hb
  rw [k.sz] at hbe
  have inn := ins_in k.ris (pn t.mask h N).j
  refine ⟨k.dm, ?_, k.pw, ins_ris k.ris fun i hi => hN ⟨i, hi⟩, fun j hj => ?_, ?_, k.sm, fun i h' v hi => ?_⟩
  · show (insertAt t.place _ _).size = (insertAt es _ _).size
    rw [size_ins, size_ins, k.sz]
  · rcases (inn j).mp hj with rfl | hj
    · exact (pn_le _ _ _).1
    · exact k.le j hj
  · rw [size_ins]; exact hro
  · rw [get_ins hbe] at hi
    show ∃ n, (insertAt t.place (below t.place (pn t.mask h N).j) (pn t.mask h N).j)[i]? = some (pn t.mask h' n).j ∧ _
    rw [get_ins hb]
    have up : ∀ n, (∀ m, m < n → In t (pn t.mask h' m).j) → ∀ m, m < n → In { t with place := insertAt t.place (below t.place (pn t.mask h N).j) (pn t.mask h N).j } (pn t.mask h' m).j := fun n q m hm => (inn _).mpr (.inr (q m hm))
    split at hi
    · rename_i c
      rw [if_pos c]
      obtain ⟨n, e1, e2⟩ := k.pr i h' v hi
      exact ⟨n, e1, up n e2⟩
    · rename_i c
      rw [if_neg c]
      split at hi
      · rename_i c2
        rw [if_pos c2]
        cases hi
        exact ⟨N, rfl, up N hl⟩
      · rename_i c2
        rw [if_neg c2]
        obtain ⟨n, e1, e2⟩ := k.pr _ h' v hi
        exact ⟨n, e1, up n e2⟩
def Occ (ow : Array (Option Nat)) (j : Nat) : Prop := ∃ i, ow[j]? = some (some i)
instance (ow : Array (Option Nat)) : DecidablePred (Occ ow) := fun j => match h : ow[j]? with
  | some (some i) => .isTrue ⟨i, h⟩
  | some none => .isFalse fun ⟨i, z⟩ => by rw [h] at z; cases z
  | none => .isFalse fun ⟨i, z⟩ => by rw [h] at z; cases z
theorem occ_getD {ow : Array (Option Nat)} {j : Nat} (hj : j < ow.size) : (ow.getD j (some 0)).isNone = !decide (Occ ow j) := by
  have e : ow[j]? = some ow[j] := Array.getElem?_eq_getElem hj
  have e2 : ow.getD j (some 0) = ow[j] := by simp [Array.getD, hj]
  rw [e2]
  cases c : ow[j] with
  | none =>
    rw [decide_eq_false (fun ⟨i, z⟩ => by rw [e, c] at z; cases z)]; rfl
  | some i =>
    rw [decide_eq_true (show Occ ow j from ⟨i, by rw [e, c]⟩)]; rfl
theorem find_range {P : Nat → Bool} : ∀ (n d : Nat), d < n → P d = true → (∀ k, k < d → P k = false) → (List.range n).find? P = some d := by
  intro n d hd hp hb
  rw [List.find?_range_eq_some]
  exact ⟨hp, by simpa using hd, fun j hj => by simpa using hb j hj⟩
theorem free_ok {mask : Nat} {h : Int} {ow : Array (Option Nat)} (hs : ow.size = mask + 1) {N b : Nat} (hN : ¬ Occ ow (pn mask h N).j) (hl : ∀ m, m < N → Occ ow (pn mask h m).j) (hb : N ≤ ss mask h b) :
    ∀ (fuel n : Nat), n ≤ b → b - n < fuel → ss mask h n ≤ N → layClean.free mask ow fuel (bl mask h n).1 (bl mask h n).2 = some (pn mask h N).j := by
  intro fuel
  induction fuel with
  | zero => intro n h1 h2; omega
  | succ fuel ih =>
    intro n h1 h2 h3
    have hil := bl_lt mask h n
    have hre : (bl mask h n).1 ≤ runEnd mask (bl mask h n).1 := by unfold runEnd; split <;> omega
    have hrm := runEnd_in hil
    have at' : ∀ d, d ≤ runEnd mask (bl mask h n).1 - (bl mask h n).1 → (pn mask h (ss mask h n + d)).j = (bl mask h n).1 + d := fun d hd => by rw [pn_in (pn_ss mask h n) d hd]
    unfold layClean.free
    by_cases c : N - ss mask h n ≤ runEnd mask (bl mask h n).1 - (bl mask h n).1
    · have e := at' _ c
      rw [show ss mask h n + (N - ss mask h n) = N by omega] at e
      rw [find_range _ (N - ss mask h n) (by omega) (by rw [occ_getD (by omega), ← e, decide_eq_false hN]; rfl) fun k hk => by
        rw [occ_getD (by omega), ← at' k (by omega), decide_eq_true (hl _ (by omega))]; rfl]
      rw [e]
    · have hn : (List.range (runEnd mask (bl mask h n).1 + 1 - (bl mask h n).1)).find? (fun k => (ow.getD ((bl mask h n).1 + k) (some 0)).isNone) = none := by
        rw [List.find?_eq_none]
        intro k hk
        have hk := List.mem_range.mp hk
        rw [occ_getD (by omega), ← at' k (by omega), decide_eq_true (hl _ (by omega))]
        simp
      rw [hn]
      show layClean.free mask ow fuel (bl mask h (n + 1)).1 (bl mask h (n + 1)).2 = _
      have hnb : n ≠ b := fun e => by subst e; omega
      exact ih (n + 1) (by omega) (by omega) (by show ss mask h n + _ + 1 ≤ N; omega)
structure Own (mask : Nat) (ow : Array (Option Nat)) (hs : List Int) : Prop where
  size : ow.size = mask + 1
  pr : ∀ (j i : Nat), ow[j]? = some (some i) → ∃ h, hs[i]? = some h ∧ ∃ n, (pn mask h n).j = j ∧ ∀ m, m < n → Occ ow (pn mask h m).j
  all : ∀ i, i < hs.length → ∃ j : Nat, ow[j]? = some (some i)
  inj : ∀ (j j' i : Nat), ow[j]? = some (some i) → ow[j']? = some (some i) → j = j'
theorem set_get {ow : Array (Option Nat)} {j i : Nat} {x : Option Nat} (hj : j < ow.size) : (ow.setIfInBounds j x)[i]? = if i = j then some x else ow[i]? := by
  rw [Array.getElem?_setIfInBounds]
  by_cases c : j = i
  · subst c; simp [hj]
  · rw [if_neg c, if_neg (fun e => c e.symm)]
theorem Own.step {mask k : Nat} (hk : mask + 1 = 2 ^ k) {ow : Array (Option Nat)} {hs : List Int} (o : Own mask ow hs) (h : Int) (hl : hs.length < mask + 1) :
    ∃ j, layClean.free mask ow (turns mask) (bits h % (mask + 1)) (bits h) = some j ∧ Own mask (ow.setIfInBounds j (some hs.length)) (hs ++ [h]) := by
  have ex : ∃ e, e ≤ mask ∧ ¬ Occ ow e := by
    refine Decidable.byContradiction fun hc => ?_
    have all : ∀ e, e ≤ mask → Occ ow e := fun e he => Decidable.byContradiction fun z => hc ⟨e, he, z⟩
    refine pigeon mask (fun j => (ow[j]?).join) (fun j hj => ?_) fun j j' i l1 l2 e1 e2 => ?_
    · obtain ⟨i, hi⟩ := all j (by omega)
      obtain ⟨h', e1, _⟩ := o.pr j i hi
      have := (List.getElem?_eq_some_iff.mp e1).1
      exact ⟨i, by rw [hi]; rfl, by omega⟩
    · obtain ⟨i1, q1⟩ := all j (by omega)
      obtain ⟨i2, q2⟩ := all j' (by omega)
      rw [q1] at e1; rw [q2] at e2
      cases e1; cases e2
      exact o.inj j j' i q1 q2
  obtain ⟨e, he, hne⟩ := ex
  obtain ⟨N, b, h3, h4, h5, h6⟩ := first_empty hk h (Occ ow) he hne
  have hj := (pn_le mask h N).1
  have hjs : (pn mask h N).j < ow.size := by rw [o.size]; omega
  refine ⟨(pn mask h N).j, free_ok o.size h5 h6 h3 _ 0 (Nat.zero_le _) (by unfold turns; omega) (Nat.zero_le _), ?_⟩
  have up : ∀ x, Occ ow x → Occ (ow.setIfInBounds (pn mask h N).j (some hs.length)) x := fun x ⟨i, hi⟩ => by
    by_cases c : x = (pn mask h N).j
    · exact ⟨hs.length, by rw [set_get hjs, if_pos c]⟩
    · exact ⟨i, by rw [set_get hjs, if_neg c]; exact hi⟩
  refine ⟨by simp [o.size], fun j i hi => ?_, fun i hi => ?_, fun j j' i q1 q2 => ?_⟩
  · rw [set_get hjs] at hi
    split at hi
    · rename_i c
      cases hi
      exact ⟨h, by simp, N, c.symm, fun m hm => up _ (h6 m hm)⟩
    · obtain ⟨h', e1, n, e2, e3⟩ := o.pr j i hi
      refine ⟨h', ?_, n, e2, fun m hm => up _ (e3 m hm)⟩
      rw [List.getElem?_append_left (List.getElem?_eq_some_iff.mp e1).1]; exact e1
  · rw [List.length_append, List.length_singleton] at hi
    by_cases c : i = hs.length
    · exact ⟨(pn mask h N).j, by rw [set_get hjs, if_pos rfl, c]⟩
    · obtain ⟨j, hj⟩ := o.all i (by omega)
      refine ⟨j, ?_⟩
      rw [set_get hjs, if_neg (fun (e : j = (pn mask h N).j) => h5 (by rw [← e]; exact ⟨i, hj⟩))]; exact hj
  · rw [set_get hjs] at q1 q2
    have lt : ∀ x, ow[x]? = some (some i) → i < hs.length := fun x hx => let ⟨_, e, _⟩ := o.pr x i hx; (List.getElem?_eq_some_iff.mp e).1
    split at q1
    · rename_i c1
      split at q2
      · rename_i c2; rw [c1, c2]
      · cases q1; have := lt _ q2; omega
    · split at q2
      · cases q2; have := lt _ q1; omega
      · exact o.inj j j' i q1 q2
end TS
namespace TS
open PySem PySem.SetTable
end TS
namespace TS
open PySem PySem.SetTable
def hashI (ks : List Int) : Int := reduceHash (Builtin.Tuple.tupleHashOf (ks.map hashInt))
section
variable {prog : Program} {w : World} {A : Around} {E : Value → Shared → Prop} {s : Shared}
theorem items_int {ks : List Int} {vs : List Value} (h : ItemsAre (intKind prog w) ks vs) : ∀ v ∈ vs, ∃ i t, v = .int i t := by
  induction h with
  | nil => intro v hv; simp at hv
  | cons h1 _ ih =>
    intro v hv
    rcases List.mem_cons.mp hv with rfl | hv
    · obtain ⟨t, rfl⟩ := Value.isInt_shape h1
      exact ⟨_, t, rfl⟩
    · exact ih v hv
structure Els (es : Array (Int × Value)) (xs : List (List Int × Addr)) : Prop where
  sub : ∀ e ∈ es.toList, ∃ p ∈ xs, e = (hashI p.1, .ref p.2)
  sup : ∀ p ∈ xs, (hashI p.1, Value.ref p.2) ∈ es.toList
  len : es.size = xs.length
end
end TS
namespace TS
open PySem PySem.SetTable
def TObj (o : Obj) (xs : List (List Int × Addr)) : Prop := o.ExactSet ∧ ∃ es ep t, o.data = .set es ep t ∧ TOk t es ∧ Els es xs
def TSet (a : Addr) (xs : List (List Int × Addr)) (h : Heap) : Prop := ∃ o, h.get? a = some o ∧ TObj o xs
section
variable {prog : Program} {w : World} {A : Around} {E : Value → Shared → Prop} {s : Shared} {a x : Addr} {k : List Int} {xs : List (List Int × Addr)}
theorem TSet.typeIs (h : TSet a xs s.heap) : s.TypeIs (.ref a) "set" := let ⟨o, ho, hc, _⟩ := h; ⟨o, ho, hc.1⟩
end
end TS
namespace BF
def lx : List Nat → List Nat → Prop
  | a :: u, b :: v => a < b ∨ (a = b ∧ lx u v)
  | _, _ => False
def sl (u v : List Nat) : Prop := u.length < v.length ∨ (u.length = v.length ∧ lx u v)
def le (u v : List Nat) : Prop := sl u v ∨ u = v
theorem lx_irr : ∀ u, ¬ lx u u
  | [], h => h
  | a :: u, h => by rcases h with h | ⟨_, h⟩; omega; exact lx_irr u h
theorem lx_trans : ∀ {u v w}, lx u v → lx v w → lx u w
  | [], _, _, h, _ => h.elim
  | _ :: _, [], _, h, _ => h.elim
  | _ :: _, _ :: _, [], _, h => h.elim
  | a :: u, b :: v, c :: w, h, g => by
    rcases h with h | ⟨h, h'⟩ <;> rcases g with g | ⟨g, g'⟩
    · exact .inl (by omega)
    · exact .inl (by omega)
    · exact .inl (by omega)
    · exact .inr ⟨by omega, lx_trans h' g'⟩
theorem sl_irr (u : List Nat) : ¬ sl u u := fun h => by
  rcases h with h | ⟨_, h⟩
  · omega
  · exact lx_irr u h
theorem sl_trans {u v w : List Nat} (h : sl u v) (g : sl v w) : sl u w := by
  rcases h with h | ⟨h, h'⟩ <;> rcases g with g | ⟨g, g'⟩
  · exact .inl (by omega)
  · exact .inl (by omega)
  · exact .inl (by omega)
  · exact .inr ⟨by omega, lx_trans h' g'⟩
theorem sl_le {u v w : List Nat} (h : sl u v) (g : le v w) : sl u w := by
  rcases g with g | rfl
  · exact sl_trans h g
  · exact h
theorem le_trans {u v w : List Nat} (h : le u v) (g : le v w) : le u w := by
  rcases h with h | rfl
  · exact .inl (sl_le h g)
  · exact g
theorem le_len {u v : List Nat} (h : le u v) : u.length ≤ v.length := by
  rcases h with (h | ⟨h, _⟩) | rfl <;> omega
theorem lx_app : ∀ {u v : List Nat} (c d : Nat), u.length = v.length → lx u v → lx (u ++ [c]) (v ++ [d])
  | [], _, _, _, _, h => h.elim
  | _ :: _, [], _, _, _, h => h.elim
  | a :: u, b :: v, c, d, hl, h => by
    rcases h with h | ⟨h, h'⟩
    · exact .inl h
    · exact .inr ⟨h, lx_app c d (by simpa using hl) h'⟩
theorem sl_app {u v : List Nat} (c d : Nat) (h : sl u v) : sl (u ++ [c]) (v ++ [d]) := by
  rcases h with h | ⟨h, h'⟩
  · exact .inl (by simpa using h)
  · exact .inr ⟨by simpa using h, lx_app c d h h'⟩
theorem lx_last : ∀ (u : List Nat) {c d : Nat}, c < d → lx (u ++ [c]) (u ++ [d])
  | [], _, _, h => .inl h
  | _ :: u, _, _, h => .inr ⟨rfl, lx_last u h⟩
theorem sl_last (u : List Nat) {c d : Nat} (h : c < d) : sl (u ++ [c]) (u ++ [d]) := .inr ⟨by simp, lx_last u h⟩
theorem le_app {u v : List Nat} (a : Nat) (h : le u v) : le (u ++ [a]) (v ++ [a]) := by
  rcases h with h | rfl
  · exact .inl (sl_app a a h)
  · exact .inr rfl
abbrev P := Nat × Nat
section
variable (A : Nat) (step : P → Nat → Option P) (fail : P → Nat → Bool)
def walk : P → List Nat → Option P
  | p, [] => some p
  | p, a :: w => (step p a).bind fun q => walk q w
def Fails (p : P) (w : List Nat) : Prop := ∃ u b q, w = u ++ [b] ∧ b < A ∧ (∀ a ∈ u, a < A) ∧ walk step p u = some q ∧ fail q b = true
def Least (p : P) (w : List Nat) : Prop := Fails A step fail p w ∧ ∀ v, Fails A step fail p v → ¬ sl v w
end
section
variable {A : Nat} {step : P → Nat → Option P} {fail : P → Nat → Bool}
theorem walk_snoc : ∀ (p : P) (u : List Nat) (a : Nat), walk step p (u ++ [a]) = (walk step p u).bind fun q => step q a
  | p, [], a => by show (step p a).bind _ = step p a; cases step p a <;> rfl
  | p, b :: u, a => by
    show (step p b).bind _ = ((step p b).bind _).bind _
    cases step p b with
    | none => rfl
    | some q => exact walk_snoc q u a
structure Bf (A : Nat) (step : P → Nat → Option P) (fail : P → Nat → Bool) (p0 : P) (ps : List P) (ws : List (List Nat)) (i c : Nat) : Prop where
  len : ws.length = ps.length
  z : ps[0]? = some p0 ∧ ws[0]? = some []
  wk : ∀ (k : Nat) q w, ps[k]? = some q → ws[k]? = some w → walk step p0 w = some q ∧ ∀ a ∈ w, a < A
  inc : ∀ (k l : Nat) u v, k < l → ws[k]? = some u → ws[l]? = some v → sl u v
  cl : ∀ (k : Nat) q w a q', ((k < i ∧ a < A) ∨ (k = i ∧ a < c)) → ps[k]? = some q → ws[k]? = some w → step q a = some q' → ∃ (l : Nat) (u : List Nat), ps[l]? = some q' ∧ ws[l]? = some u ∧ le u (w ++ [a])
  nf : ∀ (k : Nat) q a, ((k < i ∧ a < A) ∨ (k = i ∧ a < c)) → ps[k]? = some q → fail q a = false
  top : ∀ (k : Nat) w u, ws[k]? = some w → ws[i]? = some u → sl w (u ++ [c])
  nd : ps.Nodup
theorem Bf.start (p0 : P) : Bf A step fail p0 [p0] [[]] 0 0 := by
  have one : ∀ (k : Nat) w, ([[]] : List (List Nat))[k]? = some w → k = 0 ∧ w = [] := fun k w h => by
    cases k with
    | zero => exact ⟨rfl, by simpa using h.symm⟩
    | succ k => simp at h
  refine ⟨rfl, ⟨rfl, rfl⟩, fun k q w h1 h2 => ?_, fun k l u v hkl h1 h2 => ?_, fun k q w a q' h => ?_, fun k q a h => ?_, fun k w u h1 h2 => ?_, by simp⟩
  · obtain ⟨rfl, rfl⟩ := one k w h2
    have : p0 = q := by simpa using h1
    subst this
    exact ⟨rfl, fun a ha => by simp at ha⟩
  · have := (one k u h1).1; have := (one l v h2).1; omega
  · omega
  · omega
  · obtain ⟨rfl, rfl⟩ := one k w h1
    obtain ⟨_, rfl⟩ := one 0 u h2
    exact .inl (by simp)
section
variable {p0 q q' : P} {ps : List P} {ws : List (List Nat)} {w : List Nat} {i c : Nat}
theorem get_snoc {α : Type} {l : List α} {x y : α} {k : Nat} (h : (l ++ [x])[k]? = some y) : l[k]? = some y ∨ (k = l.length ∧ y = x) := by
  rcases Nat.lt_trichotomy k l.length with hk | hk | hk
  · rw [List.getElem?_append_left hk] at h; exact .inl h
  · subst hk; rw [List.getElem?_append_right (Nat.le_refl _)] at h; exact .inr ⟨rfl, by simpa using h.symm⟩
  · rw [List.getElem?_eq_none (by simp; omega)] at h; cases h
theorem get_left {α : Type} {l : List α} {x y : α} {k : Nat} (h : l[k]? = some y) : (l ++ [x])[k]? = some y := by
  rw [List.getElem?_append_left (List.getElem?_eq_some_iff.mp h).1]; exact h
theorem Bf.push (b : Bf A step fail p0 ps ws i c) (hc : c < A) (hq : ps[i]? = some q) (hw : ws[i]? = some w) (hf : fail q c = false) (hs : step q c = some q') (hn : q' ∉ ps) : Bf A step fail p0 (ps ++ [q']) (ws ++ [w ++ [c]]) i (c + 1) := by
  have hiL := (List.getElem?_eq_some_iff.mp hq).1
  refine ⟨by simp [b.len], ⟨get_left b.z.1, get_left b.z.2⟩, fun k r u h1 h2 => ?_, fun k l u v hkl h1 h2 => ?_, fun k r u a r' h h1 h2 h3 => ?_, fun k r a h h1 => ?_, fun k u v h1 h2 => ?_, ?_⟩
  · rcases get_snoc h1 with g1 | ⟨e1, rfl⟩ <;> rcases get_snoc h2 with g2 | ⟨e2, rfl⟩
    · exact b.wk k r u g1 g2
    · have := (List.getElem?_eq_some_iff.mp g1).1; have := b.len; omega
    · have := (List.getElem?_eq_some_iff.mp g2).1; have := b.len; omega
    · obtain ⟨h1, h2⟩ := b.wk i q w hq hw
      refine ⟨by rw [walk_snoc, h1]; exact hs, fun a ha => ?_⟩
      rcases List.mem_append.mp ha with ha | ha
      · exact h2 a ha
      · have : a = c := by simpa using ha
        omega
  · rcases get_snoc h1 with g1 | ⟨e1, rfl⟩ <;> rcases get_snoc h2 with g2 | ⟨e2, rfl⟩
    · exact b.inc k l u v hkl g1 g2
    · exact b.top k u w g1 hw
    · have := (List.getElem?_eq_some_iff.mp g2).1; omega
    · omega
  · have hk : k < ps.length := by omega
    have g1 : ps[k]? = some r := by rw [List.getElem?_append_left hk] at h1; exact h1
    have g2 : ws[k]? = some u := by rw [List.getElem?_append_left (by rw [b.len]; exact hk)] at h2; exact h2
    by_cases hkc : k = i ∧ a = c
    · obtain ⟨rfl, rfl⟩ := hkc
      rw [hq] at g1; cases g1
      rw [hw] at g2; cases g2
      rw [hs] at h3; cases h3
      exact ⟨ps.length, w ++ [a], by rw [List.getElem?_append_right (Nat.le_refl _)]; simp, by rw [← b.len, List.getElem?_append_right (Nat.le_refl _)]; simp, .inr rfl⟩
    · obtain ⟨l, v, e1, e2, e3⟩ := b.cl k r u a r' (by omega) g1 g2 h3
      exact ⟨l, v, get_left e1, get_left e2, e3⟩
  · have hk : k < ps.length := by omega
    have g1 : ps[k]? = some r := by rw [List.getElem?_append_left hk] at h1; exact h1
    by_cases hkc : k = i ∧ a = c
    · obtain ⟨rfl, rfl⟩ := hkc
      rw [hq] at g1; cases g1
      exact hf
    · exact b.nf k r a (by omega) g1
  · have g2 : ws[i]? = some v := by rw [List.getElem?_append_left (by rw [b.len]; exact hiL)] at h2; exact h2
    rw [hw] at g2; cases g2
    rcases get_snoc h1 with g1 | ⟨e1, rfl⟩
    · exact sl_trans (b.top k u w g1 hw) (sl_last w (Nat.lt_succ_self c))
    · exact sl_last w (Nat.lt_succ_self c)
  · rw [List.nodup_append]
    exact ⟨b.nd, by simp, fun x hx y hy => by have : y = q' := by simpa using hy
                                              subst this; exact fun e => hn (e ▸ hx)⟩
theorem Bf.skip (b : Bf A step fail p0 ps ws i c) (hc : c < A) (hq : ps[i]? = some q) (hw : ws[i]? = some w) (hf : fail q c = false) (hs : ∀ q', step q c = some q' → q' ∈ ps) : Bf A step fail p0 ps ws i (c + 1) := by
  refine ⟨b.len, b.z, b.wk, b.inc, fun k r u a r' h h1 h2 h3 => ?_, fun k r a h h1 => ?_, fun k u v h1 h2 => ?_, b.nd⟩
  · by_cases hkc : k = i ∧ a = c
    · obtain ⟨rfl, rfl⟩ := hkc
      rw [hq] at h1; cases h1
      rw [hw] at h2; cases h2
      obtain ⟨l, hl⟩ := List.mem_iff_getElem?.mp (hs r' h3)
      have hll := (List.getElem?_eq_some_iff.mp hl).1
      have hwl : l < ws.length := by rw [b.len]; exact hll
      have hv : ws[l]? = some ws[l] := List.getElem?_eq_getElem hwl
      exact ⟨l, _, hl, hv, .inl (b.top l _ w hv hw)⟩
    · exact b.cl k r u a r' (by omega) h1 h2 h3
  · by_cases hkc : k = i ∧ a = c
    · obtain ⟨rfl, rfl⟩ := hkc
      rw [hq] at h1; cases h1
      exact hf
    · exact b.nf k r a (by omega) h1
  · exact sl_trans (b.top k u v h1 h2) (sl_last v (Nat.lt_succ_self c))
theorem Bf.next (b : Bf A step fail p0 ps ws i A) : Bf A step fail p0 ps ws (i + 1) 0 := by
  refine ⟨b.len, b.z, b.wk, b.inc, fun k r u a r' h h1 h2 h3 => ?_, fun k r a h h1 => ?_, fun k u v h1 h2 => ?_, b.nd⟩
  · exact b.cl k r u a r' (by omega) h1 h2 h3
  · exact b.nf k r a (by omega) h1
  · have hl := (List.getElem?_eq_some_iff.mp h2).1
    have hi : ws[i]? = some ws[i] := List.getElem?_eq_getElem (by omega)
    exact sl_trans (b.top k u _ h1 hi) (sl_app A 0 (b.inc i (i + 1) _ v (by omega) hi h2))
theorem Bf.key (b : Bf A step fail p0 ps ws i c) (u : List Nat) (hu : ∀ a ∈ u, a < A) : ∀ q, walk step p0 u = some q → ∃ u1 u2 k w' q1, u = u1 ++ u2 ∧ ps[k]? = some q1 ∧ ws[k]? = some w' ∧ walk step p0 u1 = some q1 ∧ le w' u1 ∧ ((u2 = [] ∧ q1 = q) ∨ i ≤ k) := by
  have gen : ∀ (n : Nat) (u : List Nat), u.length = n → (∀ a ∈ u, a < A) → ∀ q, walk step p0 u = some q → ∃ u1 u2 k w' q1, u = u1 ++ u2 ∧ ps[k]? = some q1 ∧ ws[k]? = some w' ∧ walk step p0 u1 = some q1 ∧ le w' u1 ∧ ((u2 = [] ∧ q1 = q) ∨ i ≤ k) := by
    intro n
    induction n with
    | zero =>
      intro u hl hu q hq
      have : u = [] := List.length_eq_zero_iff.mp hl
      subst this
      cases hq
      exact ⟨[], [], 0, [], p0, rfl, b.z.1, b.z.2, rfl, .inr rfl, .inl ⟨rfl, rfl⟩⟩
    | succ n ih =>
      intro u hl hu q hq
      obtain ⟨u', a, rfl⟩ : ∃ u' a, u = u' ++ [a] := by
        have hne : u ≠ [] := fun e => by subst e; simp at hl
        exact ⟨u.dropLast, u.getLast hne, (List.dropLast_concat_getLast hne).symm⟩
      rw [walk_snoc] at hq
      cases hq' : walk step p0 u' with
      | none => rw [hq'] at hq; cases hq
      | some q1 =>
        rw [hq'] at hq
        have hq : step q1 a = some q := hq
        obtain ⟨u1, u2, k, w', q2, e0, e1, e2, e3, e4, e5⟩ := ih u' (by simpa using hl) (fun x hx => hu x (List.mem_append_left _ hx)) q1 hq'
        by_cases hk : i ≤ k
        · exact ⟨u1, u2 ++ [a], k, w', q2, by rw [e0, List.append_assoc], e1, e2, e3, e4, .inr hk⟩
        · rcases e5 with ⟨rfl, rfl⟩ | e5
          · rw [List.append_nil] at e0
            subst e0
            obtain ⟨l, v, g1, g2, g3⟩ := b.cl k q2 w' a q (.inl ⟨by omega, hu a (by simp)⟩) e1 e2 hq
            exact ⟨u' ++ [a], [], l, v, q, by simp, g1, g2, by rw [walk_snoc, hq']; exact hq, le_trans g3 (le_app a e4), .inl ⟨rfl, rfl⟩⟩
          · exact absurd e5 hk
  exact gen u.length u rfl hu
theorem Bf.found (b : Bf A step fail p0 ps ws i c) (hc : c < A) (hq : ps[i]? = some q) (hw : ws[i]? = some w) (hf : fail q c = true) : Least A step fail p0 (w ++ [c]) := by
  obtain ⟨hwk, hwa⟩ := b.wk i q w hq hw
  refine ⟨⟨w, c, q, rfl, hc, hwa, hwk, hf⟩, ?_⟩
  rintro v ⟨u, d, r, rfl, hd, hu, hr, hfr⟩ hs
  obtain ⟨u1, u2, k, w', q1, e0, e1, e2, e3, e4, e5⟩ := b.key u hu r hr
  have wle : i ≤ k → le w w' := fun hk => by
    rcases Nat.lt_or_ge i k with h | h
    · exact .inl (b.inc i k w w' h hw e2)
    · have : i = k := by omega
      subst this
      rw [hw] at e2; cases e2; exact .inr rfl
  have fin : i ≤ k → False := fun hk => by
    have h1 : le w u1 := le_trans (wle hk) e4
    have hl := le_len h1
    have hlu : u.length = u1.length + u2.length := by rw [e0, List.length_append]
    by_cases hlen : w.length < u.length
    · rcases hs with h | ⟨h, _⟩ <;> (simp at h; omega)
    · have hu2 : u2 = [] := List.length_eq_zero_iff.mp (by omega)
      subst hu2
      rw [List.append_nil] at e0
      subst e0
      rcases h1 with h1 | rfl
      · exact sl_irr _ (sl_trans hs (sl_app c d h1))
      · have hqr : q = r := by rw [hwk] at hr; exact Option.some.inj hr
        subst hqr
        have hdc : c ≤ d := by
          rcases Nat.lt_or_ge d c with h | h
          · have := b.nf i q d (.inr ⟨rfl, h⟩) hq
            rw [hfr] at this; cases this
          · exact h
        rcases Nat.lt_or_ge c d with h | h
        · exact sl_irr _ (sl_trans hs (sl_last w h))
        · have : c = d := by omega
          subst this
          exact sl_irr _ hs
  rcases e5 with ⟨rfl, rfl⟩ | e5
  · by_cases hk : i ≤ k
    · exact fin hk
    · have := b.nf k q1 d (.inl ⟨by omega, hd⟩) e1
      rw [hfr] at this; cases this
  · exact fin e5
theorem Bf.none (b : Bf A step fail p0 ps ws ps.length 0) : ∀ v, ¬ Fails A step fail p0 v := by
  rintro v ⟨u, d, r, rfl, hd, hu, hr, hfr⟩
  obtain ⟨u1, u2, k, w', q1, e0, e1, e2, e3, e4, e5⟩ := b.key u hu r hr
  have hk := (List.getElem?_eq_some_iff.mp e1).1
  rcases e5 with ⟨rfl, rfl⟩ | e5
  · have := b.nf k q1 d (.inl ⟨hk, hd⟩) e1
    rw [hfr] at this; cases this
  · omega
end
def Fn (A : Nat) (step : P → Nat → Option P) (fail : P → Nat → Bool) (n : Nat) (p : P) : Prop := ∃ w, Fails A step fail p w ∧ w.length = n
def Ds (A : Nat) (step : P → Nat → Option P) (fail : P → Nat → Bool) (p : P) (n : Nat) : Prop := Fn A step fail n p ∧ ∀ m, m < n → ¬ Fn A step fail m p
theorem fails_cons {p q : P} {a : Nat} {w : List Nat} (ha : a < A) (hs : step p a = some q) (h : Fails A step fail q w) : Fails A step fail p (a :: w) := by
  obtain ⟨u, b, r, rfl, h1, h2, h3, h4⟩ := h
  refine ⟨a :: u, b, r, rfl, h1, fun x hx => ?_, by show (step p a).bind _ = _; rw [hs]; exact h3, h4⟩
  rcases List.mem_cons.mp hx with rfl | hx
  · exact ha
  · exact h2 x hx
theorem fails_inv {p : P} {a : Nat} {w : List Nat} (h : Fails A step fail p (a :: w)) : (w = [] ∧ a < A ∧ fail p a = true) ∨ ∃ q, a < A ∧ step p a = some q ∧ Fails A step fail q w := by
  obtain ⟨u, b, r, e, h1, h2, h3, h4⟩ := h
  cases u with
  | nil =>
    cases e
    cases h3
    exact .inl ⟨rfl, h1, h4⟩
  | cons x u =>
    cases e
    cases hs : step p a with
    | none => rw [show walk step p (a :: u) = (step p a).bind _ from rfl, hs] at h3; cases h3
    | some q =>
      rw [show walk step p (a :: u) = (step p a).bind _ from rfl, hs] at h3
      exact .inr ⟨q, h2 a (by simp), rfl, u, b, r, rfl, h1, fun x hx => h2 x (by simp [hx]), h3, h4⟩
theorem fails_ne {p : P} : ¬ Fails A step fail p [] := by
  rintro ⟨u, b, r, e, _⟩
  simp at e
theorem Fn.one {p : P} : Fn A step fail 1 p ↔ ∃ a, a < A ∧ fail p a = true := by
  constructor
  · rintro ⟨w, h, hl⟩
    cases w with
    | nil => simp at hl
    | cons a w =>
      have : w = [] := List.length_eq_zero_iff.mp (by simpa using hl)
      subst this
      rcases fails_inv h with ⟨_, h1, h2⟩ | ⟨q, _, _, h3⟩
      · exact ⟨a, h1, h2⟩
      · exact absurd h3 fails_ne
  · rintro ⟨a, h1, h2⟩
    exact ⟨[a], ⟨[], a, p, rfl, h1, fun x hx => by simp at hx, rfl, h2⟩, rfl⟩
theorem Fn.zero {p : P} : ¬ Fn A step fail 0 p := by
  rintro ⟨w, h, hl⟩
  have : w = [] := List.length_eq_zero_iff.mp hl
  subst this
  exact fails_ne h
theorem Fn.succ {p : P} {n : Nat} : Fn A step fail (n + 2) p ↔ ∃ a q, a < A ∧ step p a = some q ∧ Fn A step fail (n + 1) q := by
  constructor
  · rintro ⟨w, h, hl⟩
    cases w with
    | nil => simp at hl
    | cons a w =>
      rcases fails_inv h with ⟨e, _⟩ | ⟨q, h1, h2, h3⟩
      · subst e; simp at hl
      · exact ⟨a, q, h1, h2, w, h3, by simpa using hl⟩
  · rintro ⟨a, q, h1, h2, w, h3, hl⟩
    exact ⟨a :: w, fails_cons h1 h2 h3, by simp [hl]⟩
theorem Ds.one {p : P} : Ds A step fail p 1 ↔ ∃ a, a < A ∧ fail p a = true := by
  constructor
  · exact fun h => Fn.one.mp h.1
  · refine fun h => ⟨Fn.one.mpr h, fun m hm => ?_⟩
    have : m = 0 := by omega
    subst this; exact Fn.zero
theorem least_nat {Q : Nat → Prop} {n : Nat} (h : Q n) : ∃ m, m ≤ n ∧ Q m ∧ ∀ k, k < m → ¬ Q k := by
  induction n using Nat.strongRecOn with
  | _ n ih =>
    by_cases c : ∃ k, k < n ∧ Q k
    · obtain ⟨k, hk, q⟩ := c
      obtain ⟨m, h1, h2⟩ := ih k hk q
      exact ⟨m, by omega, h2⟩
    · exact ⟨n, Nat.le_refl _, h, fun k hk q => c ⟨k, hk, q⟩⟩
theorem Ds.of {p : P} {n : Nat} (h : Fn A step fail n p) : ∃ m, m ≤ n ∧ Ds A step fail p m := by
  obtain ⟨m, h1, h2, h3⟩ := least_nat (Q := fun n => Fn A step fail n p) h
  exact ⟨m, h1, h2, h3⟩
theorem Least.len {p : P} {w : List Nat} {n : Nat} (h : Least A step fail p w) (d : Ds A step fail p n) : w.length = n := by
  rcases Nat.lt_trichotomy w.length n with c | c | c
  · exact absurd ⟨w, h.1, rfl⟩ (d.2 _ c)
  · exact c
  · obtain ⟨v, hv, hl⟩ := d.1
    exact absurd (.inl (by omega)) (h.2 v hv)
theorem Least.one {p : P} {a : Nat} (ha : a < A) (hf : fail p a = true) (hb : ∀ b, b < a → fail p b = false) : Least A step fail p [a] := by
  refine ⟨⟨[], a, p, rfl, ha, fun x hx => by simp at hx, rfl, hf⟩, fun v hv hs => ?_⟩
  cases v with
  | nil => exact fails_ne hv
  | cons b v =>
    rcases hs with h | ⟨h, h'⟩
    · simp at h
    · have : v = [] := List.length_eq_zero_iff.mp (by simpa using h)
      subst this
      rcases fails_inv hv with ⟨_, _, h2⟩ | ⟨q, _, _, h3⟩
      · rcases h' with h' | ⟨_, h'⟩
        · rw [hb b h'] at h2; cases h2
        · exact h'
      · exact fails_ne h3
theorem Least.cons {p q : P} {a n : Nat} {w : List Nat} (d : Ds A step fail p (n + 1)) (hn : 1 ≤ n) (ha : a < A) (hs : step p a = some q) (dq : Ds A step fail q n) (hb : ∀ b q', b < a → step p b = some q' → ¬ Ds A step fail q' n) (h : Least A step fail q w) : Least A step fail p (a :: w) := by
  have hl := h.len dq
  refine ⟨fails_cons ha hs h.1, fun v hv hsl => ?_⟩
  have hvl : v.length = n + 1 := by
    rcases hsl with h' | ⟨h', _⟩
    · exact absurd ⟨v, hv, rfl⟩ (d.2 v.length (by rw [List.length_cons] at h'; omega))
    · rw [List.length_cons] at h'; omega
  cases v with
  | nil => simp at hvl
  | cons b v =>
    rcases hsl with h' | ⟨_, h'⟩
    · rw [hvl, List.length_cons] at h'; omega
    · rcases fails_inv hv with ⟨e, _⟩ | ⟨q', h1, h2, h3⟩
      · subst e; simp at hvl; omega
      · have hvl' : v.length = n := by simpa using hvl
        have dq' : Ds A step fail q' n := ⟨⟨v, h3, hvl'⟩, fun m hm ⟨u, hu, hul⟩ => d.2 (m + 1) (by omega) ⟨b :: u, fails_cons h1 h2 hu, by simp [hul]⟩⟩
        rcases h' with h' | ⟨e, h'⟩
        · exact hb b q' h' h2 dq'
        · subst e
          rw [hs] at h2; cases h2
          exact h.2 v h3 (.inr ⟨by omega, h'⟩)
end
theorem few {n : Nat} : ∀ (l : List Nat), l.Nodup → (∀ x ∈ l, x < n) → l.length ≤ n := by
  intro l hd hl
  rcases Nat.lt_or_ge n l.length with h | h
  · exfalso
    refine TS.pigeon n (fun a => l[a]?) (fun a ha => ?_) fun a b i l1 l2 e1 e2 => ?_
    · have : a < l.length := by omega
      exact ⟨l[a], List.getElem?_eq_getElem this, hl _ (List.getElem_mem this)⟩
    · have h1 : a < l.length := by omega
      exact (List.getElem?_inj h1 hd).mp (e1.trans e2.symm)
  · exact h
end BF
namespace SP
open PySem PySem.W PyProof.Rows
inductive Ok (lt : Nat → Nat → Bool) (n : Nat) {α : Type} (G : α → Prop) : KasT α → Prop where
  | ret {a : α} (h : G a) : Ok lt n G (.ret a)
  | ask {i j : Nat} {k : Bool → KasT α} (hi : i < n) (hj : j < n) (h : Ok lt n G (k (lt i j))) : Ok lt n G (.ask i j k)
theorem Ok.bind {lt : Nat → Nat → Bool} {n : Nat} {α β : Type} {G : β → Prop} {G' : α → Prop} {t : KasT α} {f : α → KasT β} (h : Ok lt n G' t) (hf : ∀ a, G' a → Ok lt n G (f a)) : Ok lt n G (t.bind f) := by
  induction h with
  | ret h => exact hf _ h
  | ask hi hj _ ih => exact .ask hi hj ih
section
variable {r : Nat → Int} {n : Nat}
def lt (r : Nat → Int) (i j : Nat) : Bool := decide (r i < r j)
def at' (r : Nat → Int) (p : Array Nat) (k : Nat) : Int := r (p.getD k 0)
def Pm (n : Nat) (p : Array Nat) : Prop := p.Perm (List.range n).toArray
def Up (r : Nat → Int) (p : Array Nat) (m : Nat) : Prop := ∀ i j, i < j → j < m → at' r p i < at' r p j
def Inj (r : Nat → Int) (n : Nat) : Prop := ∀ i j, i < n → j < n → r i = r j → i = j
theorem Pm.size {p : Array Nat} (h : Pm n p) : p.size = n := by
  have := h.size_eq; simpa using this
theorem Pm.lt {p : Array Nat} (h : Pm n p) {k : Nat} (hk : k < n) : p.getD k 0 < n := by
  have hs := h.size
  have e : p.getD k 0 = p[k]'(by omega) := by simp [Array.getD, hs, hk]
  have := (Array.perm_iff_toList_perm.mp h).mem_iff (a := p[k]'(by omega))
  rw [e]
  have h1 : p[k]'(by omega) ∈ p.toList := by simp
  simpa using this.mp h1
theorem Pm.inj {p : Array Nat} (h : Pm n p) (hr : Inj r n) {i j : Nat} (hi : i < n) (hj : j < n) (e : at' r p i = at' r p j) : i = j := by
  have hs := h.size
  have e1 := hr _ _ (h.lt hi) (h.lt hj) e
  have ei : p.getD i 0 = p[i]'(by omega) := by simp [Array.getD, hs, hi]
  have ej : p.getD j 0 = p[j]'(by omega) := by simp [Array.getD, hs, hj]
  rw [ei, ej] at e1
  have nd : p.toList.Nodup := (Array.perm_iff_toList_perm.mp h).nodup_iff.mpr (by simpa using List.nodup_range)
  have : p.toList[i]'(by simp; omega) = p.toList[j]'(by simp; omega) := by simpa using e1
  exact (List.getElem_inj nd).mp this
theorem Up.more {p : Array Nat} {m : Nat} (u : Up r p m) (hm : 0 < m) (h : at' r p (m - 1) < at' r p m) : Up r p (m + 1) := fun i j hij hj => by
  by_cases e : j = m
  · subst e
    by_cases e2 : i = j - 1
    · rw [e2]; exact h
    · exact Int.lt_trans (u i (j - 1) (by omega) (by omega)) h
  · exact u i j hij (by omega)
theorem place {p : Array Nat} (hp : Pm n p) {k : Nat} (hk : k < n) (u : Up r p k) : ∀ (f l h : Nat), h - l ≤ f → l ≤ h → h ≤ k → (∀ i, i < l → at' r p i ≤ at' r p k) → (∀ i, h ≤ i → i < k → at' r p k < at' r p i) →
    Ok (lt r) n (fun l' => l' ≤ k ∧ (∀ i, i < l' → at' r p i ≤ at' r p k) ∧ ∀ i, l' ≤ i → i < k → at' r p k < at' r p i) (kas_place p k f l h)
  | 0, l, h, e, hlh, hh, a, b => by
    have : l = h := by omega
    subst this
    exact .ret ⟨hh, a, b⟩
  | f + 1, l, h, e, hlh, hh, a, b => by
    unfold kas_place
    by_cases c : l ≥ h
    · rw [if_pos c]
      have : l = h := by omega
      subst this
      exact .ret ⟨hh, a, b⟩
    · rw [if_neg c]
      refine .ask (hp.lt hk) (hp.lt (by omega)) ?_
      by_cases d : at' r p k < at' r p ((l + h) / 2)
      · rw [if_pos (show lt r _ _ = true from decide_eq_true d)]
        refine place hp hk u f l _ (by omega) (by omega) (by omega) a fun i hi hik => ?_
        by_cases z : i = (l + h) / 2
        · rw [z]; exact d
        · exact Int.lt_trans d (u _ _ (by omega) hik)
      · rw [if_neg (show ¬ lt r _ _ = true by rw [show lt r _ _ = false from decide_eq_false d]; simp)]
        refine place hp hk u f _ h (by omega) (by omega) hh (fun i hi => ?_) b
        by_cases z : i = (l + h) / 2
        · rw [z]; exact Int.not_lt.mp d
        · exact Int.le_trans (Int.le_of_lt (u i ((l + h) / 2) (by omega) (by omega))) (Int.not_lt.mp d)
end
end SP
namespace SP
open PySem PySem.W PyProof.Rows PySem.Calls
abbrev Pr := Int × Int
def plt (p q : Pr) : Bool := decide (p.1 < q.1) || (decide (p.1 = q.1) && decide (p.2 < q.2))
def IsP (h : Heap) (v : Value) (p : Pr) : Prop := ∃ a o t1 t2 n, v = .ref a ∧ h.get? a = some o ∧ o.cls = .type "tuple" ∧ o.data = .seq #[.int p.1 t1, .int p.2 t2] n
theorem IsP.kept {h h' : Heap} {v : Value} {p : Pr} (x : IsP h v p) (k : ∀ b o, o.cls = .type "tuple" → h.get? b = some o → h'.get? b = some o) : IsP h' v p :=
  let ⟨a, o, t1, t2, n, e, ho, c, d⟩ := x; ⟨a, o, t1, t2, n, e, k a o c ho, c, d⟩
inductive TR (R : Value → Pr → Prop) : List Value → List Pr → Prop where
  | nil : TR R [] []
  | cons {v : Value} {p : Pr} {vs : List Value} {ps : List Pr} : R v p → TR R vs ps → TR R (v :: vs) (p :: ps)
abbrev Tp (h : Heap) := TR (IsP h)
theorem TR.length {R : Value → Pr → Prop} {vs : List Value} {ps : List Pr} (t : TR R vs ps) : vs.length = ps.length := by
  induction t with
  | nil => rfl
  | cons _ _ ih => simp [ih]
theorem TR.imp {R R' : Value → Pr → Prop} {vs : List Value} {ps : List Pr} (t : TR R vs ps) (k : ∀ v p, R v p → R' v p) : TR R' vs ps := by
  induction t with
  | nil => exact .nil
  | cons x _ ih => exact .cons (k _ _ x) ih
theorem TR.get {R : Value → Pr → Prop} {vs : List Value} {ps : List Pr} (t : TR R vs ps) : ∀ {i : Nat}, i < ps.length → R (vs.getD i .none) (ps.getD i (0, 0)) := by
  induction t with
  | nil => intro i hi; simp at hi
  | cons x _ ih =>
    intro i hi
    cases i with
    | zero => simpa using x
    | succ j => simpa using ih (i := j) (by simpa using hi)
theorem tups {h : Heap} {vs : List Value} {ps : List Pr} (t : Tp h vs ps) : ∃ fs : List Value, KatTups h vs fs ∧ fs.length = ps.length ∧ ∀ v ∈ fs, ∃ i k, v = .int i k := by
  induction t with
  | nil => exact ⟨[], .nil, rfl, fun v hv => by simp at hv⟩
  | @cons v p vs ps x _ ih =>
    obtain ⟨fs, h1, h2, h3⟩ := ih
    obtain ⟨a, o, t1, t2, n, rfl, ho, c, d⟩ := x
    refine ⟨.int p.1 t1 :: fs, KatTups.cons ho c d rfl h1, by simp [h2], fun v hv => ?_⟩
    rcases List.mem_cons.mp hv with e | hv
    · exact ⟨_, _, e⟩
    · exact h3 v hv
section
variable {prog : Program} {w : World} {A : Around} {E : Value → Shared → Prop} {s : Shared}
end
def rk (ps : List Pr) (i : Nat) : Int := (ps.countP (fun q => plt q (ps.getD i (0, 0))) : Nat)
section
variable {prog : Program} {w : World} {A : Around} {E : Value → Shared → Prop} {s : Shared}
end
end SP
namespace L2
open PySem PySem.Spec PyProof.Rows
abbrev Key := Sum Int Str
def keyIs : Key → Value → Bool
  | .inl k, v => Value.isInt k v
  | .inr x, v => Value.isStrOf x v
def keyH (w : World) : Key → Int
  | .inl k => hashInt k
  | .inr x => hashStr w x
theorem keyIs_shape : ∀ {k : Key} {v : Value}, keyIs k v = true → (∃ i t, k = Sum.inl i ∧ v = Value.int i t) ∨ (∃ x t, k = Sum.inr x ∧ v = Value.str x t)
  | .inl i, v, h => by
    obtain ⟨t, e⟩ := Value.isInt_shape (k := i) (v := v) h
    exact .inl ⟨i, t, rfl, e⟩
  | .inr x, v, h => by
    obtain ⟨t, e⟩ := Value.isStrOf_shape (x := x) (v := v) h
    exact .inr ⟨x, t, rfl, e⟩
theorem keyIs_int (i : Int) (t : Tok) : keyIs (.inl i) (.int i t) = true := by simp [keyIs, Value.isInt]
theorem keyIs_str (x : Str) (t : Tok) : keyIs (.inr x) (.str x t) = true := by simp [keyIs, Value.isStrOf]
theorem key_ll (a b : Int) : decide ((Sum.inl a : Key) = Sum.inl b) = (a == b) := by
  by_cases e : a = b
  · subst e; simp
  · have h : ¬ (Sum.inl a : Key) = Sum.inl b := fun q => e (Sum.inl.inj q)
    rw [decide_eq_false h]
    exact (beq_eq_false_iff_ne.mpr e).symm
theorem key_rr (a b : Str) : decide ((Sum.inr a : Key) = Sum.inr b) = decide (a = b) := by
  by_cases e : a = b
  · subst e; simp
  · have h : ¬ (Sum.inr a : Key) = Sum.inr b := fun q => e (Sum.inr.inj q)
    rw [decide_eq_false h, decide_eq_false e]
theorem key_lr (a : Int) (b : Str) : decide ((Sum.inl a : Key) = Sum.inr b) = false := decide_eq_false (fun q => nomatch q)
theorem key_rl (a : Str) (b : Int) : decide ((Sum.inr a : Key) = Sum.inl b) = false := decide_eq_false (fun q => nomatch q)
def mixKind (prog : Program) (w : World) : PySem.KeyKind prog w Key where
  is := keyIs
  hash := keyH w
  inj := fun v a b ha hb => by
    rcases keyIs_shape ha with ⟨i, t, rfl, rfl⟩ | ⟨x, t, rfl, rfl⟩
    · rcases keyIs_shape hb with ⟨j, u, rfl, e⟩ | ⟨y, u, rfl, e⟩
      · injection e with e1 _; rw [e1]
      · exact nomatch e
    · rcases keyIs_shape hb with ⟨j, u, rfl, e⟩ | ⟨y, u, rfl, e⟩
      · exact nomatch e
      · injection e with e1 _; rw [e1]
  byValue := fun k v h => by
    rcases keyIs_shape h with ⟨i, t, rfl, rfl⟩ | ⟨x, t, rfl, rfl⟩ <;> rfl
  pyHash := fun hv h => by
    rcases keyIs_shape hv with ⟨i, t, rfl, rfl⟩ | ⟨x, t, rfl, rfl⟩
    · exact wpAny_pyHash_int h
    · exact wpAny_pyHash_str h
  eqBool := fun hu hv h => by
    rcases keyIs_shape hu with ⟨i, t, rfl, rfl⟩ | ⟨x, t, rfl, rfl⟩
    · rcases keyIs_shape hv with ⟨j, u, rfl, rfl⟩ | ⟨y, u, rfl, rfl⟩
      · rw [key_ll] at h; exact wpAny_eqBool_int h
      · rw [key_lr] at h; exact SeqAt.EqAt.int_str i t y u _ _ _ _ h
    · rcases keyIs_shape hv with ⟨j, u, rfl, rfl⟩ | ⟨y, u, rfl, rfl⟩
      · rw [key_rl] at h; exact SeqAt.EqAt.str_int x t j u _ _ _ _ h
      · rw [key_rr] at h; exact wpAny_eqBool_str h
  «strs» := fun k x t v h => by
    rcases keyIs_shape h with ⟨i, u, rfl, e⟩ | ⟨y, u, rfl, e⟩
    · exact nomatch e
    · injection e with e1 _
      subst e1
      cases v <;> rfl
theorem mixKind_int (prog : Program) (w : World) (i : Int) (t : Tok) : (mixKind prog w).is (.inl i) (.int i t) = true := keyIs_int i t
theorem mixKind_str (prog : Program) (w : World) (x : Str) (t : Tok) : (mixKind prog w).is (.inr x) (.str x t) = true := keyIs_str x t
end L2
namespace L2
open PySem PySem.Spec PyProof.Rows
inductive V where
  | non | bl (b : Bool) | int (i : Int) | str (x : Str) | byt (b : Array UInt8) | flt (b : UInt64) | ref (a : Addr) | ty (n : String)
  deriving DecidableEq
def RelV : V → Value → Prop
  | .non, u => u = Value.none
  | .bl b, u => u = Value.bool b
  | .int i, u => ∃ t, u = Value.int i t
  | .str x, u => ∃ t, u = Value.str x t
  | .byt b, u => ∃ t, u = Value.bytes b t
  | .flt b, u => ∃ t, u = Value.float b t
  | .ref a, u => u = Value.ref a
  | .ty n, u => u = Value.type n
abbrev Vals : List V → List Value → Prop := Paired RelV
theorem Vals.length {xs : List V} {us : List Value} (r : Vals xs us) : xs.length = us.length := Paired.length r
theorem Vals.get : ∀ {xs : List V} {us : List Value} {i : Nat} {x : V}, Vals xs us → xs[i]? = some x → ∃ u, us[i]? = some u ∧ RelV x u
  | _, _, _, _, .nil, e => by simp at e
  | _, _, 0, _, .cons r _, e => by simp at e; subst e; exact ⟨_, rfl, r⟩
  | _, _, i + 1, x, .cons _ t, e => by
    obtain ⟨u, h1, h2⟩ := Vals.get (i := i) (x := x) t (by simpa using e)
    exact ⟨u, by simpa using h1, h2⟩
theorem Vals.set {x : V} {u : Value} (r : RelV x u) : ∀ {xs : List V} {us : List Value} (i : Nat), Vals xs us → Vals (xs.set i x) (us.set i u)
  | _, _, _, .nil => .nil
  | _, _, 0, .cons _ t => .cons r t
  | _, _, i + 1, .cons q t => .cons q (Vals.set r i t)
theorem Vals.append : ∀ {xs ys : List V} {us ws : List Value}, Vals xs us → Vals ys ws → Vals (xs ++ ys) (us ++ ws)
  | _, _, _, _, .nil, s => s
  | _, _, _, _, .cons r t, s => .cons r (Vals.append t s)
theorem Vals.take : ∀ {xs : List V} {us : List Value} (n : Nat), Vals xs us → Vals (xs.take n) (us.take n)
  | _, _, 0, _ => .nil
  | _, _, _ + 1, .nil => .nil
  | _, _, n + 1, .cons r t => .cons r (Vals.take n t)
theorem Vals.drop : ∀ {xs : List V} {us : List Value} (n : Nat), Vals xs us → Vals (xs.drop n) (us.drop n)
  | _, _, 0, r => r
  | _, _, _ + 1, .nil => .nil
  | _, _, n + 1, .cons _ t => Vals.drop n t
def RelO : Option V → Option Value → Prop
  | some v, some u => RelV v u
  | none, none => True
  | _, _ => False
def KV {κ : Type} : List (κ × V) → List (κ × Value) → Prop := Paired fun (p : κ × V) (q : κ × Value) => p.1 = q.1 ∧ RelV p.2 q.2
def kV : Key → V
  | .inl i => .int i
  | .inr x => .str x
inductive HO where
  | lst (xs : List V)
  | tup (xs : List V)
  | dK (kvs : List (Key × V)) | dT (kvs : List (List Key × V))
  | set (S : Int → Bool) (n : Nat)
  | ins (C dx : Addr) (fs : List (Str × V))
  | own (x : Addr)
  | xd (fs : List (Str × V))
  | met (f x : Addr)
  | rng (lo hi : Int)
  | frz (o : Obj) (u : HO)
  | tbl (ps : Array Value)
  | ext (φ : Heap → Prop)
abbrev Hp := Addr → Option HO
def upd (H : Hp) (a : Addr) (o : HO) : Hp := fun b => if b = a then some o else H b
theorem upd_same {H : Hp} {a : Addr} {o : HO} : upd H a o a = some o := by unfold upd; rw [if_pos rfl]
theorem upd_ne {H : Hp} {a b : Addr} {o : HO} (h : b ≠ a) : upd H a o b = H b := by unfold upd; rw [if_neg h]
theorem ne_of {H : Hp} {a b : Addr} {o u : HO} (h : H a = some o) (h' : H b = some u) (d : o ≠ u) : a ≠ b := by
  intro e; subst e; rw [h] at h'; exact d (Option.some.inj h')
theorem ne_of_none {H : Hp} {a b : Addr} {o : HO} (h : H a = some o) (h' : H b = none) : a ≠ b := by
  intro e; subst e; rw [h] at h'; cases h'
section
variable (P : Program) (w : World)
def ObjOk (H : Hp) (h : Heap) (a : Addr) : HO → Prop
  | .lst xs => xs.length ≤ sizeLine ∧ ∃ (its : List Value) (n : Nat), Vals xs its ∧ h.get? a = some { cls := .type "list", data := .seq its.toArray n }
  | .tup xs => xs.length ≤ sizeLine ∧ ∃ its : List Value, Vals xs its ∧ IsTup h a its.toArray
  | .dK kvs => kvs.length ≤ sizeLine ∧ (a == sysModules) = false ∧ ∃ vs, KV kvs vs ∧ h.DictOf (mixKind P w) a vs
  | .dT kvs => kvs.length ≤ sizeLine ∧ (a == sysModules) = false ∧ ∃ xs : List (List Key × Addr × Value),
      Paired (fun (p : List Key × V) (q : List Key × Addr × Value) => p.1 = q.1 ∧ H q.2.1 = some (.tup (p.1.map kV)) ∧ RelV p.2 q.2.2) kvs xs ∧
      ∃ o es ep, h.get? a = some o ∧ o.ExactDict ∧ o.data = .dict es ep ∧ es.toList = xs.map (entryOfKey (tupleKind (mixKind P w))) ∧ (xs.map (·.1)).Nodup
  | .set S n => h.SetOf (intKind P w) a S n
  | .ins C dx fs => H dx = some (.own a) ∧ fs.length ≤ 1000 ∧ dx ≠ a ∧ h.get? a = some (PySem.W.instObj C dx) ∧
      ∃ mA, h.Ns1 dx mA ∧ (∀ f, RelO (fs.lookup f) (mA f)) ∧ PySem.Within mA (fs.map (·.1))
  | .own _ => ∃ o, h.get? a = some o
  | .xd fs => ∃ mA, h.Ns1 a mA ∧ ∀ f, RelO (fs.lookup f) (mA f)
  | .rng lo hi => ∃ t u v, h.get? a = some { cls := .type "range", data := .fields #[.int lo t, .int hi u, .int 1 v] }
  | .frz o u => h.get? a = some o ∧ ObjOk H h a u
  | .tbl ps => h.get? a = some { cls := .none, data := .fields ps }
  | .met f x => h.get? a = some (PySem.W.methodObj (.ref f) (.ref x))
  | .ext φ => φ h ∧ (∃ o, h.get? a = some o) ∧ ∀ h1 h2 : Heap, φ h1 → (∀ o, h1.get? a = some o → h2.get? a = some o) → φ h2
def HOk (H : Hp) (h : Heap) : Prop := ∀ a o, H a = some o → ObjOk P w H h a o
end
section
variable {P : Program} {w : World} {H H' : Hp} {h h' : Heap} {a : Addr} {o : HO}
theorem ObjOk.lt (x : ObjOk P w H h a o) : a < h.objs.size := by
  cases o with
  | lst xs => obtain ⟨_, _, _, _, e⟩ := x; exact Heap.lt_size e
  | tup xs => obtain ⟨_, _, _, p⟩ := x; exact p.lt
  | dK kvs => obtain ⟨_, _, _, _, o, _, _, e, _⟩ := x; exact Heap.lt_size e
  | dT kvs => obtain ⟨_, _, _, _, o, _, _, e, _⟩ := x; exact Heap.lt_size e
  | set S n => obtain ⟨o, _, _, _, e, _⟩ := x; exact Heap.lt_size e
  | ins C dx fs => obtain ⟨_, _, _, e, _⟩ := x; exact Heap.lt_size e
  | own y => obtain ⟨_, e⟩ := x; exact Heap.lt_size e
  | xd fs => obtain ⟨_, ⟨_, _, _, e, _⟩, _⟩ := x; exact Heap.lt_size e
  | rng lo hi => obtain ⟨_, _, _, e⟩ := x; exact Heap.lt_size e
  | frz ob u => obtain ⟨e, _⟩ := x; exact Heap.lt_size e
  | tbl ps => exact Heap.lt_size (show h.get? a = some _ from x)
  | met f y => exact Heap.lt_size (show h.get? a = some _ from x)
  | ext φ => obtain ⟨_, ⟨_, e⟩, _⟩ := x; exact Heap.lt_size e
theorem Paired.mapP {α β : Type} {F G : α → β → Prop} : ∀ {l₁ : List α} {l₂ : List β}, Paired F l₁ l₂ → (∀ a b, F a b → G a b) → Paired G l₁ l₂
  | _, _, .nil, _ => .nil
  | _, _, .cons r t, f => .cons (f _ _ r) (Paired.mapP t f)
theorem ObjOk.stay (x : ObjOk P w H h a o) (k : ∀ b u, (b = a ∨ H b = some (.own a)) → h.get? b = some u → h'.get? b = some u)
    (ho : ∀ b, H b = some (.own a) → H' b = some (.own a)) (ht : ∀ b xs, H b = some (.tup xs) → H' b = some (.tup xs)) : ObjOk P w H' h' a o := by
  induction o with
  | lst xs => obtain ⟨z, its, n, r, e⟩ := x; exact ⟨z, its, n, r, k _ _ (.inl rfl) e⟩
  | tup xs => obtain ⟨z, its, r, ob, e, c⟩ := x; exact ⟨z, its, r, ob, k _ _ (.inl rfl) e, c⟩
  | dK kvs => obtain ⟨z, y, vs, r, ob, es, ep, e, c⟩ := x; exact ⟨z, y, vs, r, ob, es, ep, k _ _ (.inl rfl) e, c⟩
  | dT kvs =>
    obtain ⟨z, y, xs, r, ob, es, ep, e, c⟩ := x
    exact ⟨z, y, xs, Paired.mapP r fun p q z => ⟨z.1, ht _ _ z.2.1, z.2.2⟩, ob, es, ep, k _ _ (.inl rfl) e, c⟩
  | set S n => obtain ⟨ob, es, ep, t, e, c⟩ := x; exact ⟨ob, es, ep, t, k _ _ (.inl rfl) e, c⟩
  | ins C dx fs =>
    obtain ⟨d, z, ne, e, mA, ⟨od, es, ep, e2, c⟩, r⟩ := x
    exact ⟨ho _ d, z, ne, k _ _ (.inl rfl) e, mA, ⟨od, es, ep, k _ _ (.inr d) e2, c⟩, r⟩
  | own y => obtain ⟨ob, e⟩ := x; exact ⟨ob, k _ _ (.inl rfl) e⟩
  | xd fs => obtain ⟨mA, ⟨od, es, ep, e, c⟩, r⟩ := x; exact ⟨mA, ⟨od, es, ep, k _ _ (.inl rfl) e, c⟩, r⟩
  | rng lo hi => obtain ⟨t, u, v, e⟩ := x; exact ⟨t, u, v, k _ _ (.inl rfl) e⟩
  | frz ob u ih => obtain ⟨e, q⟩ := x; exact ⟨k _ _ (.inl rfl) e, ih q⟩
  | tbl ps =>
    have e : h.get? a = some { cls := .none, data := .fields ps } := x
    show h'.get? a = some { cls := .none, data := .fields ps }
    exact k a _ (.inl rfl) e
  | met f y =>
    have e : h.get? a = some (PySem.W.methodObj (.ref f) (.ref y)) := x
    show h'.get? a = some (PySem.W.methodObj (.ref f) (.ref y))
    exact k a _ (.inl rfl) e
  | ext φ => obtain ⟨p, ⟨o, e⟩, st⟩ := x; exact ⟨st _ _ p fun o q => k _ _ (.inl rfl) q, ⟨o, k _ _ (.inl rfl) e⟩, st⟩
theorem HOk.lt (x : HOk P w H h) (e : H a = some o) : a < h.objs.size := (x a o e).lt
theorem HOk.fresh (x : HOk P w H h) (e : h.objs.size ≤ a) : H a = none := by
  cases q : H a with
  | none => rfl
  | some u => exact absurd (Nat.lt_of_lt_of_le (x.lt q) e) (Nat.lt_irrefl _)
theorem HOk.kept (x : HOk P w H h) (k : ∀ b u, h.get? b = some u → h'.get? b = some u) : HOk P w H h' := fun a o e =>
  (x a o e).stay (fun b u _ q => k b u q) (fun _ q => q) fun _ _ q => q
theorem HOk.laid (x : HOk P w H h) (k : ∀ b u, h.get? b = some u → h'.get? b = some u) (hp : h.objs.size ≤ a) (new : ObjOk P w (upd H a o) h' a o) : HOk P w (upd H a o) h' := fun b u e => by
  have hn := x.fresh hp
  by_cases hb : b = a
  · subst hb; rw [upd_same] at e; cases e; exact new
  · rw [upd_ne hb] at e
    exact (x b u e).stay (fun c v _ q => k c v q) (fun c q => by rw [upd_ne (ne_of_none q hn)]; exact q) fun c xs q => by rw [upd_ne (ne_of_none q hn)]; exact q
end
def Rd (H : Hp) (a : Addr) (u : HO) : Prop := H a = some u ∨ ∃ o, H a = some (.frz o u)
theorem Rd.of {H : Hp} {a : Addr} {u : HO} (h : H a = some u) : Rd H a u := .inl h
theorem Rd.ok {P : Program} {w : World} {H : Hp} {h : Heap} {a : Addr} {u : HO} (r : Rd H a u) (x : HOk P w H h) : ObjOk P w H h a u := by
  rcases r with r | ⟨o, r⟩
  · exact x a u r
  · obtain ⟨_, q⟩ := x a _ r
    exact q
def Mut : Option HO → Prop
  | some (.lst _) => True
  | some (.dK _) => True
  | some (.dT _) => True
  | some (.set _ _) => True
  | some (.ins _ _ _) => True
  | some (.ext _) => True
  | _ => False
section
variable {P : Program} {w : World} {H : Hp} {h h' : Heap} {x e : Addr} {o' : HO}
theorem HOk.write (ok : HOk P w H h) (mu : Mut (H x)) (he : e = x ∨ H e = some (.own x)) (k : ∀ b u, b ≠ e → h.get? b = some u → h'.get? b = some u) (heo : ∃ u, h'.get? e = some u)
    (new : ObjOk P w (upd H x o') h' x o') : HOk P w (upd H x o') h' := fun b u q => by
  have nown : ∀ c y, H c = some (.own y) → c ≠ x := fun c y r z => by subst z; rw [r] at mu; exact mu
  have ntup : ∀ c xs, H c = some (.tup xs) → c ≠ x := fun c xs r z => by subst z; rw [r] at mu; exact mu
  by_cases hb : b = x
  · subst hb; rw [upd_same] at q; cases q; exact new
  · rw [upd_ne hb] at q
    by_cases hbe : b = e
    · have q' : H b = some (.own x) := by
        rcases he with z | z
        · exact absurd (hbe.trans z) hb
        · rw [hbe]; exact z
      rw [q] at q'; cases q'
      obtain ⟨v, hv⟩ := heo
      exact ⟨v, by rw [hbe]; exact hv⟩
    · refine (ok b u q).stay (fun c v hc r => k c v ?_ r) (fun c r => by rw [upd_ne (nown c b r)]; exact r) fun c xs r => by rw [upd_ne (ntup c xs r)]; exact r
      rcases hc with rfl | hc
      · exact hbe
      · rintro rfl
        rcases he with z | z
        · exact nown c b hc z
        · rw [hc] at z; cases z; exact hb rfl
end
structure Un (fs ex : List Addr) (H H' : Hp) (h h' : Heap) : Prop where
  keep : ∀ b o, h.get? b = some o → H b = none → b ∉ fs → b ∉ ex → h'.get? b = some o
  slot : ∀ b o, h.get? b = some o → H b = none → b ∈ fs → b ∉ ex → ∃ sl, h'.get? b = some { o with slots := sl }
  free : ∀ b o, h.get? b = some o → H b = none → b ∉ ex → H' b = none
  there : ∀ b o, h.get? b = some o → b ∉ ex → ∃ o', h'.get? b = some o'
  tups : ∀ b xs, H b = some (.tup xs) → H' b = some (.tup xs)
  frzs : ∀ b o u, H b = some (.frz o u) → H' b = some (.frz o u)
  tbls : ∀ b ps, H b = some (.tbl ps) → ∃ more, H' b = some (.tbl (ps ++ more))
section
variable {fs fs' ex ex' : List Addr} {H H1 H2 : Hp} {h h1 h2 h' : Heap} {a x e : Addr} {o : HO}
theorem Un.any (u : Un fs ex H H1 h h1) {b : Addr} {ob : Obj} (q : h.get? b = some ob) (n : H b = none) (hx : b ∉ ex) : ∃ sl, h1.get? b = some { ob with slots := sl } := by
  by_cases hb : b ∈ fs
  · exact u.slot b ob q n hb hx
  · exact ⟨ob.slots, u.keep b ob q n hb hx⟩
theorem Un.trans (a : Un fs ex H H1 h h1) (b : Un fs ex H1 H2 h1 h2) : Un fs ex H H2 h h2 where
  keep := fun c ob q n hc hx => b.keep c ob (a.keep c ob q n hc hx) (a.free c ob q n hx) hc hx
  slot := fun c ob q n hc hx => by
    obtain ⟨sl, e1⟩ := a.slot c ob q n hc hx
    obtain ⟨sl', e2⟩ := b.slot c _ e1 (a.free c ob q n hx) hc hx
    exact ⟨sl', e2⟩
  free := fun c ob q n hx => by
    obtain ⟨o', e1⟩ := a.there c ob q hx
    exact b.free c o' e1 (a.free c ob q n hx) hx
  there := fun c ob q hx => by
    obtain ⟨o', e1⟩ := a.there c ob q hx
    exact b.there c o' e1 hx
  tups := fun c xs q => b.tups c xs (a.tups c xs q)
  frzs := fun c ob xs q => b.frzs c ob xs (a.frzs c ob xs q)
  tbls := fun c ps q => by
    obtain ⟨m1, e1⟩ := a.tbls c ps q
    obtain ⟨m2, e2⟩ := b.tbls c _ e1
    exact ⟨m1 ++ m2, by rw [e2, Array.append_assoc]⟩
theorem Un.kept (k : ∀ b u, h.get? b = some u → h'.get? b = some u) : Un fs ex H H h h' :=
  ⟨fun b ob q _ _ _ => k b ob q, fun b ob q _ _ _ => ⟨ob.slots, k b ob q⟩, fun _ _ _ n _ => n, fun b ob q _ => ⟨ob, k b ob q⟩, fun _ _ q => q, fun _ _ _ q => q, fun _ ps q => ⟨#[], by rw [q]; simp⟩⟩
theorem Un.refl : Un fs ex H H h h := Un.kept fun _ _ q => q
theorem Un.laid (k : ∀ b u, h.get? b = some u → h'.get? b = some u) (hp : h.objs.size ≤ a) (hn : H a = none) : Un fs ex H (upd H a o) h h' where
  keep := fun b u q _ _ _ => k b u q
  slot := fun b u q _ _ _ => ⟨u.slots, k b u q⟩
  free := fun b u q n _ => by rw [upd_ne (Nat.ne_of_lt (Nat.lt_of_lt_of_le (Heap.lt_size q) hp))]; exact n
  there := fun b u q _ => ⟨u, k b u q⟩
  tups := fun b xs q => by rw [upd_ne (ne_of_none q hn)]; exact q
  frzs := fun b u xs q => by rw [upd_ne (ne_of_none q hn)]; exact q
  tbls := fun b ps q => ⟨#[], by rw [upd_ne (ne_of_none q hn), q]; simp⟩
theorem Un.write (mu : Mut (H x)) (he : e = x ∨ H e = some (.own x)) (k : ∀ b u, b ≠ e → h.get? b = some u → h'.get? b = some u) (heo : ∃ u, h'.get? e = some u) : Un fs ex H (upd H x o) h h' := by
  have hx : ∀ b, H b = none → b ≠ x := fun b n z => by subst z; rw [n] at mu; exact mu
  have hb : ∀ b, H b = none → b ≠ e := fun b n z => by
    subst z
    rcases he with r | r
    · exact hx b n r
    · rw [n] at r; cases r
  have hm : ∀ b u, H b = some u → ¬ Mut (some u) → b ≠ x := fun b u q nm z => by subst z; rw [q] at mu; exact nm mu
  refine ⟨fun b u q n _ _ => k b u (hb b n) q, fun b u q n _ _ => ⟨u.slots, k b u (hb b n) q⟩, fun b u q n _ => by rw [upd_ne (hx b n)]; exact n, fun b u q _ => ?_,
    fun b xs q => by rw [upd_ne (hm b _ q fun z => z)]; exact q, fun b u xs q => by rw [upd_ne (hm b _ q fun z => z)]; exact q, fun b ps q => ⟨#[], by rw [upd_ne (hm b _ q fun z => z), q]; simp⟩⟩
  by_cases hbe : b = e
  · subst hbe; exact heo
  · exact ⟨u, k b u hbe q⟩
theorem Un.mono (u : Un fs ex H H1 h h1) (hs : ∀ b ∈ fs, b ∈ fs') (hx : ∀ b ∈ ex, b ∈ ex') : Un fs' ex' H H1 h h1 :=
  ⟨fun b ob q n hb he => u.keep b ob q n (fun z => hb (hs b z)) fun z => he (hx b z), fun _ _ q n _ he => u.any q n fun z => he (hx _ z), fun b ob q n he => u.free b ob q n fun z => he (hx b z), fun b ob q he => u.there b ob q fun z => he (hx b z), u.tups, u.frzs, u.tbls⟩
end
def trk (h : Heap) (H : Hp) : List Addr := (List.range h.objs.size).filter fun a => (H a).isSome
def hidT (h : Heap) (H : Hp) : Heap := PySem.W.hideAll h (trk h H)
theorem hidT_size (h : Heap) (H : Hp) : (hidT h H).objs.size = h.objs.size := PySem.W.hideAll_size _ _
theorem hidT_get {h : Heap} {H : Hp} {b : Addr} {o : Obj} (e : h.get? b = some o) (n : H b = none) : (hidT h H).get? b = some o :=
  PySem.W.hideAll_get _ e fun hm => by
    have q : (H b).isSome = true := (List.mem_filter.mp hm).2
    rw [n] at q; simp at q
theorem of_hidT {h : Heap} {H : Hp} {b : Addr} {o : Obj} (e : (hidT h H).get? b = some o) : h.get? b = some o ∧ H b = none := by
  have e' : h.get? b = some o := PySem.W.of_hideAll (trk h H) e
  refine ⟨e', ?_⟩
  cases q : H b with
  | none => rfl
  | some x =>
    have hm : b ∈ trk h H := List.mem_filter.mpr ⟨List.mem_range.mpr (Heap.lt_size e'), by simp [q]⟩
    have z : (hidT h H).get? b = none := PySem.W.hideAll_none (trk h H) hm
    rw [z] at e; cases e
def allNews (g h : Heap) (L : Addr) : List (Addr × Obj) := (List.range h.objs.size).filterMap fun a => if a = L ∨ (g.get? a).isSome = true then none else (h.get? a).map fun o => (a, o)
def rest (g h : Heap) (L d : Addr) : List (Addr × Obj) := (allNews g h L).filter fun p => decide (p.1 ≠ d)
end L2
namespace L2
open PySem PySem.Spec PyProof.Rows
structure Mod (K : PySem.W.Frag) (mg : Str → Option Value) (base : Heap) : Prop where
  kin : K.In base
  glob : base.Ns mainGlobals mg
  blt : ∃ mb, base.Ns builtinsNs mb ∧ ∀ x : Str, x ≠ "__name__" → mb x = bootBuiltins x
  nolimit : base.NoLimit
structure Cx where
  prog : Program
  w : World
  K : PySem.W.Frag
  mg : Str → Option Value
  base : Heap
  A : Around
  N : List Str
  s₀ : Shared
  H₀ : Hp
  env : Env
  outer : List Env
  stack : List Env
  ex : List Addr
  fn : Str → Bool
  calm : Bool
  pn : List (Addr × Obj)
  xe : Value → Shared → Prop
def frs (l : List Env) : List Addr := l.filterMap (·.frame)
abbrev Cx.fs (X : Cx) : List Addr := frs X.outer
def Vis (sc : Scope) (x : Str) : Prop := sc.names.lookup x = some .local ∨ sc.names.lookup x = some .cell ∨ sc.names.lookup x = some .free
def Loc (sc : Scope) (x : Str) : Prop := sc.names.lookup x = some .local ∨ sc.names.lookup x = some .cell
def Look (env : Env) (h : Heap) (m : Str → Option Value) (x : Str) (u : Value) : Prop :=
  (env.kindOf x = some .local ∧ m x = some u) ∨ ((env.kindOf x = some .cell ∨ env.kindOf x = some .free) ∧ ∃ c, env.cells.lookup x = some c ∧ h.IsCell c (some u))
structure Cx.Ok (X : Cx) : Prop where
  mod : Mod X.K X.mg X.base
  kind : X.env.scope.kind = .function
  glob : X.env.globals = mainGlobals
  blt : X.env.builtins = builtinsNs
  above : X.s₀.heap.objs.size ≤ X.env.locals
  inj : ∀ x y c, X.env.cells.lookup x = some c → X.env.cells.lookup y = some c → x = y
  has : ∀ x, (X.env.kindOf x = some .cell ∨ X.env.kindOf x = some .free) → ∃ c, X.env.cells.lookup x = some c
  cab : ∀ x c, X.fn x = true → X.env.cells.lookup x = some c → X.s₀.heap.objs.size ≤ c
  hd : X.calm = true → X.A.handled = none
  frames : X.A.frames = some X.stack
  stk : X.stack = X.outer ∨ (X.stack = X.env :: X.outer ∧ X.env.frame = some X.env.locals)
  exf : ∀ b ∈ X.ex, b ≠ X.env.locals ∧ ∀ x c, X.env.cells.lookup x = some c → c ≠ b
  bs : ∀ b o, X.base.get? b = some o → X.s₀.heap.get? b = some o ∧ X.H₀ b = none
  bsz : X.base.objs.size ≤ X.s₀.heap.objs.size
  noex : ∀ b o, X.base.get? b = some o → b ∉ X.ex
  exfs : ∀ b ∈ X.ex, b ∉ X.fs
  funs : X.s₀.heap.FunFrames X.base X.outer
  frf : ∀ b ∈ X.fs, X.H₀ b = none
structure Inv (X : Cx) (pins : List (Addr × Obj)) (σ : List (Option V)) (H : Hp) (s : Shared) : Prop where
  ok : X.Ok
  os : s.os = X.s₀.os
  bare : AllBare s.gens
  base : Un X.fs X.ex X.H₀ H X.s₀.heap s.heap
  loc : ∃ m, s.heap.Ns X.env.locals m ∧ ∀ (i : Nat) (x : Str) (v : V), X.N[i]? = some x → σ[i]? = some (some v) → Vis X.env.scope x → ∃ u, RelV v u ∧ Look X.env s.heap m x u
  cell : ∀ x c, X.env.cells.lookup x = some c → ∃ v, s.heap.IsCell c v
  free : H X.env.locals = none
  freeC : ∀ x c, X.env.cells.lookup x = some c → H c = none
  pin : ∀ p ∈ X.pn ++ pins, s.heap.get? p.1 = some p.2 ∧ H p.1 = none ∧ p.1 ≠ X.env.locals ∧ p.1 ∉ X.fs ∧ ∀ v, p.2.data ≠ .cell v
  hok : HOk X.prog X.w H s.heap
  len : σ.length = X.N.length
section
variable {X : Cx} {pins : List (Addr × Obj)} {σ : List (Option V)} {H H' : Hp} {s : Shared} {h' : Heap}
theorem Cx.Ok.nofr (ok : X.Ok) {b : Addr} {o : Obj} (e : X.base.get? b = some o) : b ∉ X.fs := fun hb => by
  have := (ok.funs.mem hb).1
  rw [e] at this; cases this
theorem Inv.bs (I : Inv X pins σ H s) : ∀ b o, X.base.get? b = some o → s.heap.get? b = some o ∧ H b = none := fun b o e =>
  ⟨I.base.keep b o (I.ok.bs b o e).1 (I.ok.bs b o e).2 (I.ok.nofr e) (I.ok.noex b o e), I.base.free b o (I.ok.bs b o e).1 (I.ok.bs b o e).2 (I.ok.noex b o e)⟩
theorem Inv.bk (I : Inv X pins σ H s) : ∀ b o, X.base.get? b = some o → s.heap.get? b = some o := fun b o e => (I.bs b o e).1
theorem Inv.mod (I : Inv X pins σ H s) : Mod X.K X.mg X.base := I.ok.mod
theorem Inv.kIn (I : Inv X pins σ H s) : X.K.In s.heap := I.ok.mod.kin.keeps I.bk
theorem Inv.nolimit (I : Inv X pins σ H s) : s.heap.NoLimit := I.ok.mod.nolimit.keeps I.bk
theorem Inv.lt (I : Inv X pins σ H s) : X.env.locals < s.heap.objs.size := let ⟨_, hn, _⟩ := I.loc; hn.lt
theorem Inv.sz (I : Inv X pins σ H s) : X.s₀.heap.objs.size ≤ s.heap.objs.size := Nat.le_trans I.ok.above (Nat.le_of_lt I.lt)
theorem Inv.nofs (I : Inv X pins σ H s) {a : Addr} (h : s.heap.objs.size ≤ a) : a ∉ X.fs := fun hb => by
  obtain ⟨_, o, ho, _⟩ := I.ok.funs.mem hb
  exact absurd (Nat.lt_of_lt_of_le (Heap.lt_size ho) (Nat.le_trans I.sz h)) (Nat.lt_irrefl _)
theorem Inv.cne (I : Inv X pins σ H s) : ∀ x c, X.env.cells.lookup x = some c → c ≠ X.env.locals := fun x c e z => by
  obtain ⟨v, o, ho, hd⟩ := I.cell x c e
  obtain ⟨m, ⟨o', es, ep, ho', hd', _⟩, _⟩ := I.loc
  rw [z, ho'] at ho; cases ho; rw [hd'] at hd; cases hd
theorem Inv.funs (I : Inv X pins σ H s) : s.heap.FunFrames X.base X.outer := by
  have all : ∀ (l : List Env), (∀ b ∈ frs l, b ∈ X.fs) → X.s₀.heap.FunFrames X.base l → s.heap.FunFrames X.base l := by
    intro l
    induction l with
    | nil => intro _ _; trivial
    | cons env r ih =>
      intro hs hl
      obtain ⟨hk, ⟨L, o, hf, hn, ho, hd⟩, hr⟩ := hl
      have hL : L ∈ X.fs := hs L (by unfold frs; rw [List.filterMap_cons, hf]; exact List.mem_cons_self)
      obtain ⟨sl, e⟩ := I.base.slot L o ho (I.ok.frf L hL) hL fun z => I.ok.exfs L z hL
      exact ⟨hk, ⟨L, _, hf, hn, e, hd⟩, ih (fun b hb => hs b (by unfold frs; rw [List.filterMap_cons, hf]; exact List.mem_cons_of_mem _ hb)) hr⟩
  exact all X.outer (fun _ hb => hb) I.ok.funs
theorem Inv.stack (I : Inv X pins σ H s) : s.heap.FunFrames X.base X.stack := by
  rcases I.ok.stk with e | ⟨e, hf⟩
  · rw [e]; exact I.funs
  · rw [e]
    obtain ⟨m, hn, _⟩ := I.loc
    refine .cons (by rw [I.ok.kind]; decide) hf hn ?_ I.funs
    exact Heap.get?_none_of_le (Nat.le_trans I.ok.bsz I.ok.above)
theorem Inv.stkSub (I : Inv X pins σ H s) : ∀ b ∈ frs X.stack, b ∈ X.env.locals :: X.fs := fun b hb => by
  rcases I.ok.stk with e | ⟨e, hf⟩
  · rw [e] at hb; exact List.mem_cons_of_mem _ hb
  · rw [e] at hb
    unfold frs at hb
    rw [List.filterMap_cons, hf] at hb
    exact hb
theorem Inv.stkFree (I : Inv X pins σ H s) : ∀ b ∈ frs X.stack, H b = none := fun b hb => by
  rcases List.mem_cons.mp (I.stkSub b hb) with e | hb
  · rw [e]; exact I.free
  · obtain ⟨_, o, ho, _⟩ := I.ok.funs.mem hb
    exact I.base.free b o ho (I.ok.frf b hb) fun z => I.ok.exfs b z hb
theorem Inv.step {g' : Array GenState} {t' : Nat} {d' : Drawn} {ch : List Addr} (I : Inv X pins σ H s)
    (hch : ∀ b ∈ ch, (b ∈ X.ex ∨ X.s₀.heap.objs.size ≤ b) ∧ b ≠ X.env.locals ∧ (∀ x c, X.env.cells.lookup x = some c → c ≠ b) ∧ ∀ p ∈ X.pn ++ pins, p.1 ≠ b)
    (keep : ∀ b o, b ≠ X.env.locals → b ∉ X.fs → b ∉ ch → s.heap.get? b = some o → H b = none → h'.get? b = some o)
    (slot : ∀ b o, b ≠ X.env.locals → b ∈ X.fs → b ∉ ch → s.heap.get? b = some o → H b = none → ∃ sl, h'.get? b = some { o with slots := sl }) (free : ∀ b o, b ∉ ch → s.heap.get? b = some o → H b = none → H' b = none)
    (there : ∀ b o, b ∉ ch → s.heap.get? b = some o → ∃ o', h'.get? b = some o')
    (tups : ∀ b xs, H b = some (.tup xs) → H' b = some (.tup xs)) (frzs : ∀ b o u, H b = some (.frz o u) → H' b = some (.frz o u)) (tbls : ∀ b ps, H b = some (.tbl ps) → ∃ more, H' b = some (.tbl (ps ++ more)))
    (ns : ∀ m, s.heap.Ns X.env.locals m → h'.Ns X.env.locals m) (hok : HOk X.prog X.w H' h') (hg : AllBare g') :
    Inv X pins σ H' { s with heap := h', gens := g', drawn := d', toks := t' } := by
  have neL : ∀ b o, X.s₀.heap.get? b = some o → b ≠ X.env.locals := fun b o e => Nat.ne_of_lt (Nat.lt_of_lt_of_le (Heap.lt_size e) I.ok.above)
  have neC : ∀ b o, X.s₀.heap.get? b = some o → b ∉ X.ex → b ∉ ch := fun b o e hx hb => by
    rcases (hch b hb).1 with z | z
    · exact hx z
    · exact absurd (Nat.lt_of_lt_of_le (Heap.lt_size e) z) (Nat.lt_irrefl _)
  have cellK : ∀ x c, X.env.cells.lookup x = some c → ∀ v, s.heap.IsCell c v → h'.IsCell c v := fun x c e v ⟨o, ho, hd⟩ => by
    have nch : c ∉ ch := fun z => (hch c z).2.2.1 x c e rfl
    by_cases hc : c ∈ X.fs
    · obtain ⟨sl, q⟩ := slot c o (I.cne x c e) hc nch ho (I.freeC x c e)
      exact ⟨_, q, hd⟩
    · exact ⟨o, keep c o (I.cne x c e) hc nch ho (I.freeC x c e), hd⟩
  refine ⟨I.ok, I.os, hg, ⟨fun b o e n hb hx => ?_, fun b o e n hb hx => ?_, fun b o e n hx => ?_, fun b o e hx => ?_, fun b xs e => tups b xs (I.base.tups b xs e), fun b o xs e => frzs b o xs (I.base.frzs b o xs e), fun b ps e => ?_⟩, ?_, fun x c e => ?_, ?_, fun x c e => ?_, fun p hp => ?_, hok, I.len⟩
  · exact keep b o (neL b o e) hb (neC b o e hx) (I.base.keep b o e n hb hx) (I.base.free b o e n hx)
  · obtain ⟨sl, e1⟩ := I.base.slot b o e n hb hx
    obtain ⟨sl', e2⟩ := slot b _ (neL b o e) hb (neC b o e hx) e1 (I.base.free b o e n hx)
    exact ⟨sl', e2⟩
  · obtain ⟨o', e1⟩ := I.base.there b o e hx
    exact free b o' (neC b o e hx) e1 (I.base.free b o e n hx)
  · obtain ⟨o', e1⟩ := I.base.there b o e hx
    exact there b o' (neC b o e hx) e1
  · obtain ⟨m1, e1⟩ := I.base.tbls b ps e
    obtain ⟨m2, e2⟩ := tbls b _ e1
    exact ⟨m1 ++ m2, by rw [e2, Array.append_assoc]⟩
  · obtain ⟨m, hn, hl⟩ := I.loc
    refine ⟨m, ns m hn, fun i x v e1 e2 e3 => ?_⟩
    obtain ⟨u, r, l⟩ := hl i x v e1 e2 e3
    refine ⟨u, r, ?_⟩
    rcases l with l | ⟨k, c, e, z⟩
    · exact .inl l
    · exact .inr ⟨k, c, e, cellK x c e _ z⟩
  · obtain ⟨v, z⟩ := I.cell x c e
    exact ⟨v, cellK x c e v z⟩
  · obtain ⟨m, ⟨o, _, _, ho, _⟩, _⟩ := I.loc
    exact free _ o (fun z => (hch _ z).2.1 rfl) ho I.free
  · obtain ⟨v, o, ho, hd⟩ := I.cell x c e
    exact free c o (fun z => (hch c z).2.2.1 x c e rfl) ho (I.freeC x c e)
  · obtain ⟨e, n, ne, nf, d⟩ := I.pin p hp
    have nch : p.1 ∉ ch := fun z => (hch p.1 z).2.2.2 p hp rfl
    exact ⟨keep p.1 p.2 ne nf nch e n, free p.1 p.2 nch e n, ne, nf, d⟩
theorem Inv.un {t' : Nat} (I : Inv X pins σ H s) (u : Un X.fs [] H H' s.heap h') (hok : HOk X.prog X.w H' h') : Inv X pins σ H' { s with heap := h', toks := t' } := by
  obtain ⟨m, ⟨o, es, ep, ho, r⟩, _⟩ := id I.loc
  obtain ⟨sl, hL⟩ := u.any ho I.free (by simp)
  exact I.step (g' := s.gens) (d' := s.drawn) (ch := []) (fun _ z => nomatch z) (fun b o _ hb _ e n => u.keep b o e n hb (by simp)) (fun b o _ hb _ e n => u.slot b o e n hb (by simp)) (fun b o _ e n => u.free b o e n (by simp)) (fun b o _ e => u.there b o e (by simp)) u.tups u.frzs u.tbls (fun m' hm => by
    obtain ⟨o', es', ep', ho', r'⟩ := hm
    rw [ho] at ho'; cases ho'
    exact ⟨_, es', ep', hL, r'⟩) hok I.bare
theorem Inv.call {g' : Array GenState} {t' : Nat} {d' : Drawn} {ch : List Addr} (I : Inv X pins σ H s) (u : Un (frs X.stack) ch H H' s.heap h') (hok : HOk X.prog X.w H' h') (hg : AllBare g')
    (hch : ∀ b ∈ ch, (b ∈ X.ex ∨ X.s₀.heap.objs.size ≤ b) ∧ b ≠ X.env.locals ∧ (∀ x c, X.env.cells.lookup x = some c → c ≠ b) ∧ ∀ p ∈ X.pn ++ pins, p.1 ≠ b) :
    Inv X pins σ H' { s with heap := h', gens := g', drawn := d', toks := t' } := by
  obtain ⟨m, ⟨o, es, ep, ho, r⟩, _⟩ := id I.loc
  obtain ⟨sl, hL⟩ := u.any ho I.free fun z => (hch _ z).2.1 rfl
  exact I.step (ch := ch) hch (fun b o hL hb hc e n => u.keep b o e n (fun z => (List.mem_cons.mp (I.stkSub b z)).elim hL hb) hc) (fun b o _ _ hc e n => u.any e n hc) (fun b o hc e n => u.free b o e n hc) (fun b o hc e => u.there b o e hc) u.tups u.frzs u.tbls (fun m' hm => by
    obtain ⟨o', es', ep', ho', r'⟩ := hm
    rw [ho] at ho'; cases ho'
    exact ⟨_, es', ep', hL, r'⟩) hok hg
theorem Inv.turned {t' : Nat} {it : Addr} (I : Inv X pins σ H s) (k : ∀ b o, b ≠ it → s.heap.get? b = some o → h'.get? b = some o) (hn : H it = none) (hL : it ≠ X.env.locals)
    (h1 : it ∈ X.ex ∨ X.s₀.heap.objs.size ≤ it) (h2 : ∀ x c, X.env.cells.lookup x = some c → c ≠ it) (h3 : ∀ p ∈ X.pn ++ pins, p.1 ≠ it) : Inv X pins σ H { s with heap := h', toks := t' } := by
  have nit : ∀ b u, H b = some u → b ≠ it := fun b u e z => by rw [z, hn] at e; cases e
  refine I.step (g' := s.gens) (d' := s.drawn) (ch := [it]) (fun b hb => ?_) (fun b o _ _ hc e _ => k b o (fun z => hc (by simp [z])) e) (fun b o _ _ hc e _ => ⟨o.slots, k b o (fun z => hc (by simp [z])) e⟩) (fun _ _ _ _ n => n)
    (fun b o hc e => ⟨o, k b o (fun z => hc (by simp [z])) e⟩) (fun _ _ e => e) (fun _ _ _ e => e) (fun b ps e => ⟨#[], by rw [e]; simp⟩) (fun m hm => ?_) (fun b u e => ?_) I.bare
  · have e : b = it := by simpa using hb
    subst e
    exact ⟨h1, hL, h2, h3⟩
  · obtain ⟨o, es, ep, ho, r⟩ := hm
    exact ⟨o, es, ep, k _ o (Ne.symm hL) ho, r⟩
  · refine (I.hok b u e).stay (fun c v hc q => k c v ?_ q) (fun _ q => q) fun _ _ q => q
    rcases hc with z | z
    · rw [z]; exact nit b u e
    · exact nit c _ z
theorem Inv.tok (I : Inv X pins σ H s) (t : Nat) : Inv X pins σ H { s with toks := t } := I.un (h' := s.heap) (t' := t) Un.refl I.hok
theorem Inv.kept {t' : Nat} (I : Inv X pins σ H s) (k : ∀ b u, s.heap.get? b = some u → h'.get? b = some u) : Inv X pins σ H { s with heap := h', toks := t' } := I.un (Un.kept k) (I.hok.kept k)
theorem Inv.laid {a : Addr} {o : HO} {t' : Nat} (I : Inv X pins σ H s) (k : ∀ b u, s.heap.get? b = some u → h'.get? b = some u) (hp : s.heap.objs.size ≤ a) (new : ObjOk X.prog X.w (upd H a o) h' a o) :
    Inv X pins σ (upd H a o) { s with heap := h', toks := t' } := I.un (Un.laid k hp (I.hok.fresh hp)) (I.hok.laid k hp new)
theorem Inv.write {x e : Addr} {o : HO} {t' : Nat} (I : Inv X pins σ H s) (mu : Mut (H x)) (he : e = x ∨ H e = some (.own x)) (k : ∀ b u, b ≠ e → s.heap.get? b = some u → h'.get? b = some u) (heo : ∃ u, h'.get? e = some u)
    (new : ObjOk X.prog X.w (upd H x o) h' x o) : Inv X pins σ (upd H x o) { s with heap := h', toks := t' } := I.un (Un.write mu he k heo) (I.hok.write mu he k heo new)
theorem Inv.pins_of {pins' : List (Addr × Obj)} (I : Inv X pins σ H s) (h : ∀ p ∈ pins', s.heap.get? p.1 = some p.2 ∧ H p.1 = none ∧ p.1 ≠ X.env.locals ∧ p.1 ∉ X.fs ∧ ∀ v, p.2.data ≠ .cell v) : Inv X pins' σ H s :=
  ⟨I.ok, I.os, I.bare, I.base, I.loc, I.cell, I.free, I.freeC, fun p hp => (List.mem_append.mp hp).elim (fun z => I.pin p (List.mem_append_left _ z)) (h p), I.hok, I.len⟩
theorem nodup_ix {N : List Str} (hN : N.Nodup) {i j : Nat} {x : Str} (a : N[i]? = some x) (b : N[j]? = some x) : i = j := by
  obtain ⟨h1, e1⟩ := List.getElem?_eq_some_iff.mp a
  obtain ⟨h2, e2⟩ := List.getElem?_eq_some_iff.mp b
  exact (List.getElem_inj hN).mp (e1.trans e2.symm)
theorem store_ok2 {M : Model} {A : Around} {E : Value → Shared → Prop} {i : Nat} {x : Str} {v : V} {u : Value} {Q : Unit → Shared → Prop} (I : Inv X pins σ H s) (hN : X.N.Nodup) (hi : X.N[i]? = some x) (hx : Loc X.env.scope x) (r : RelV v u)
    (h : ∀ s', Inv X pins (σ.set i (some v)) H s' → (∃ a, Heap.SameBut a s.heap s'.heap ∧ (a = X.env.locals ∨ X.env.cells.lookup x = some a)) → Q () s') (hf : X.fn x = true ∨ X.env.scope.names.lookup x = some .local := by first | exact .inl rfl | exact .inr rfl | assumption) : wpAny M A (storeName X.env x u) Q E s := by
  obtain ⟨m, hn, hl⟩ := id I.loc
  have hcls : (X.env.scope.kind == .class || (X.env.scope.kind == .module && X.env.locals != X.env.globals)) = false := by rw [I.ok.kind]; rfl
  have hiσ : i < σ.length := by rw [I.len]; exact (List.getElem?_eq_some_iff.mp hi).1
  have cne := I.cne
  have tracked : ∀ {a : Addr} {h' : Heap}, (∃ o, s.heap.get? a = some o ∧ H a = none) → Heap.SameBut a s.heap h' → HOk X.prog X.w H h' := fun {a h'} ha hs b ob e => by
    obtain ⟨_, _, hfree⟩ := ha
    refine (I.hok b ob e).stay (fun c w' hc q => (hs.2 c ?_).trans q) (fun _ q => q) fun _ _ q => q
    rintro rfl
    rcases hc with rfl | hc
    · rw [hfree] at e; cases e
    · rw [hfree] at hc; cases hc
  rcases hx with hk | hk
  · refine wpAny_storeName_local hk hn (fun h' hn' hs => ?_) hcls
    obtain ⟨oL, _, _, hoL, _⟩ := id hn
    refine h _ ⟨I.ok, I.os, I.bare, ⟨fun b o e n hb hx => ?_, fun b o e n hb hx => ?_, I.base.free, fun b o e hx => ?_, I.base.tups, I.base.frzs, I.base.tbls⟩, ⟨_, hn', fun j y v' e1 e2 e3 => ?_⟩, fun y c e => ?_, I.free, I.freeC, fun p hp => ?_, tracked ⟨oL, hoL, I.free⟩ hs, by simpa using I.len⟩ ⟨_, hs, .inl rfl⟩
    · exact (hs.2 b (Nat.ne_of_lt (Nat.lt_of_lt_of_le (Heap.lt_size e) I.ok.above))).trans (I.base.keep b o e n hb hx)
    · obtain ⟨sl, e1⟩ := I.base.slot b o e n hb hx
      exact ⟨sl, (hs.2 b (Nat.ne_of_lt (Nat.lt_of_lt_of_le (Heap.lt_size e) I.ok.above))).trans e1⟩
    · obtain ⟨o', e1⟩ := I.base.there b o e hx
      exact ⟨o', (hs.2 b (Nat.ne_of_lt (Nat.lt_of_lt_of_le (Heap.lt_size e) I.ok.above))).trans e1⟩
    · by_cases hj : j = i
      · subst hj
        rw [hi] at e1; cases e1
        rw [List.getElem?_set_self hiσ] at e2
        cases e2
        exact ⟨u, r, .inl ⟨hk, by simp⟩⟩
      · rw [List.getElem?_set_ne (Ne.symm hj)] at e2
        obtain ⟨u', r', q⟩ := hl j y v' e1 e2 e3
        refine ⟨u', r', ?_⟩
        rcases q with ⟨k, e⟩ | ⟨k, c, e, z⟩
        · refine .inl ⟨k, ?_⟩
          have : y ≠ x := fun e => hj (nodup_ix hN e1 (e ▸ hi))
          simp [this, e]
        · exact .inr ⟨k, c, e, z.sameBut hs (cne y c e)⟩
    · obtain ⟨w', z⟩ := I.cell y c e
      exact ⟨w', z.sameBut hs (cne y c e)⟩
    · obtain ⟨e, n, ne, nf, d⟩ := I.pin p hp
      exact ⟨(hs.2 p.1 ne).trans e, n, ne, nf, d⟩
  · have hfn : X.fn x = true := by
      rcases hf with z | z
      · exact z
      · rw [z] at hk; cases hk
    obtain ⟨c, hc⟩ := I.ok.has x (.inl hk)
    obtain ⟨w', z⟩ := I.cell x c hc
    refine wpAny_storeName_cell I.ok.kind hk hc z (fun h' hc' hs => ?_)
    obtain ⟨oc, hoc, hocd⟩ := id z
    refine h { s with heap := h' } ⟨I.ok, I.os, I.bare, ⟨fun b o e n hb hx => ?_, fun b o e n hb hx => ?_, I.base.free, fun b o e hx => ?_, I.base.tups, I.base.frzs, I.base.tbls⟩, ⟨m, hn.sameBut hs (Ne.symm (cne x c hc)), fun j y v' e1 e2 e3 => ?_⟩, fun y c' e => ?_, I.free, I.freeC, fun p hp => ?_, tracked ⟨oc, hoc, I.freeC x c hc⟩ hs, by simpa using I.len⟩ ⟨c, hs, .inr hc⟩
    · exact (hs.2 b (Nat.ne_of_lt (Nat.lt_of_lt_of_le (Heap.lt_size e) (I.ok.cab x c hfn hc)))).trans (I.base.keep b o e n hb hx)
    · obtain ⟨sl, e1⟩ := I.base.slot b o e n hb hx
      exact ⟨sl, (hs.2 b (Nat.ne_of_lt (Nat.lt_of_lt_of_le (Heap.lt_size e) (I.ok.cab x c hfn hc)))).trans e1⟩
    · obtain ⟨o', e1⟩ := I.base.there b o e hx
      exact ⟨o', (hs.2 b (Nat.ne_of_lt (Nat.lt_of_lt_of_le (Heap.lt_size e) (I.ok.cab x c hfn hc)))).trans e1⟩
    · by_cases hj : j = i
      · subst hj
        rw [hi] at e1; cases e1
        rw [List.getElem?_set_self hiσ] at e2
        cases e2
        exact ⟨u, r, .inr ⟨.inl hk, c, hc, hc'⟩⟩
      · rw [List.getElem?_set_ne (Ne.symm hj)] at e2
        obtain ⟨u', r', q⟩ := hl j y v' e1 e2 e3
        refine ⟨u', r', ?_⟩
        rcases q with q | ⟨k, c', e, z'⟩
        · exact .inl q
        · refine .inr ⟨k, c', e, z'.sameBut hs ?_⟩
          rintro rfl
          exact hj (nodup_ix hN e1 (I.ok.inj _ _ _ e hc ▸ hi))
    · by_cases hcc : c' = c
      · subst hcc; exact ⟨_, hc'⟩
      · obtain ⟨w2, z2⟩ := I.cell y c' e
        exact ⟨w2, z2.sameBut hs hcc⟩
    · obtain ⟨e, n, ne, nf, d⟩ := I.pin p hp
      refine ⟨(hs.2 p.1 ?_).trans e, n, ne, nf, d⟩
      intro q
      rw [q, hoc] at e
      have q' : oc = p.2 := Option.some.inj e
      exact d w' (by rw [← q']; exact hocd)
theorem store_ok {M : Model} {A : Around} {E : Value → Shared → Prop} {i : Nat} {x : Str} {v : V} {u : Value} {Q : Unit → Shared → Prop} (I : Inv X pins σ H s) (hN : X.N.Nodup) (hi : X.N[i]? = some x) (hx : Loc X.env.scope x) (r : RelV v u)
    (h : ∀ s', Inv X pins (σ.set i (some v)) H s' → Q () s') (hf : X.fn x = true ∨ X.env.scope.names.lookup x = some .local := by first | exact .inl rfl | exact .inr rfl | assumption) : wpAny M A (storeName X.env x u) Q E s :=
  store_ok2 I hN hi hx r (fun s' I' _ => h s' I') hf
theorem Inv.call' {s' : Shared} {ch : List Addr} (I : Inv X pins σ H s) (ho : s'.os = s.os) (u : Un (frs X.stack) ch H H' s.heap s'.heap) (hok : HOk X.prog X.w H' s'.heap) (hg : AllBare s'.gens)
    (hch : ∀ b ∈ ch, (b ∈ X.ex ∨ X.s₀.heap.objs.size ≤ b) ∧ b ≠ X.env.locals ∧ (∀ x c, X.env.cells.lookup x = some c → c ≠ b) ∧ ∀ p ∈ X.pn ++ pins, p.1 ≠ b) : Inv X pins σ H' s' := by
  obtain ⟨h', g', d', t', o'⟩ := s'
  have e : o' = s.os := ho
  subst e
  exact I.call (g' := g') (t' := t') (d' := d') u hok hg hch
end
abbrev XK := Value → Option Addr → Hp → Prop
abbrev St := List (Option V)
abbrev VK := V → Hp → Prop
abbrev TE := St → Hp → VK → Prop
abbrev TT := St → Hp → (Bool → Hp → Prop) → Prop
abbrev TA := St → Hp → (List V → Hp → Prop) → Prop
structure Ends where
  nx : St → Hp → Prop
  rt : VK
  bk : St → Hp → Prop := fun _ _ => False
  ct : St → Hp → Prop := fun _ _ => False
abbrev TS := Ends → St → Hp → Prop
def EP (X : Cx) (pins : List (Addr × Obj)) (σ : St) (Q : VK) (u : Value) (s' : Shared) : Prop := ∃ v H', Inv X pins σ H' s' ∧ RelV v u ∧ Q v H'
def TP (X : Cx) (pins : List (Addr × Obj)) (σ : St) (Q : Bool → Hp → Prop) (b : Bool) (s' : Shared) : Prop := ∃ H', Inv X pins σ H' s' ∧ Q b H'
def AP (X : Cx) (pins : List (Addr × Obj)) (σ : St) (Q : List V → Hp → Prop) (us : List Value) (s' : Shared) : Prop := ∃ vs H', Inv X pins σ H' s' ∧ Vals vs us ∧ Q vs H'
def SP (X : Cx) (pins : List (Addr × Obj)) (D : Ends) (f : Flow) (s' : Shared) : Prop :=
  match f with
  | .next => ∃ σ' H', Inv X pins σ' H' s' ∧ D.nx σ' H'
  | .brk => ∃ σ' H', Inv X pins σ' H' s' ∧ D.bk σ' H'
  | .cont => ∃ σ' H', Inv X pins σ' H' s' ∧ D.ct σ' H'
  | .ret u => ∃ v σ' H', Inv X pins σ' H' s' ∧ RelV v u ∧ D.rt v H'
def PE (X : Cx) (e : Expr) (t : TE) : Prop :=
  ∀ (pins : List (Addr × Obj)) (s : Shared) (σ : St) (H : Hp) (Q : VK), Inv X pins σ H s → t σ H Q → wpAny (model X.prog X.w) X.A (eval e X.env) (EP X pins σ Q) X.xe s
def PT (X : Cx) (e : Expr) (t : TT) : Prop :=
  ∀ (pins : List (Addr × Obj)) (s : Shared) (σ : St) (H : Hp) (Q : Bool → Hp → Prop), Inv X pins σ H s → t σ H Q → wpAny (model X.prog X.w) X.A (isTrue e X.env (eval e X.env)) (TP X pins σ Q) X.xe s
def PW (X : Cx) (e : Expr) (t : TT) : Prop :=
  ∀ (whole : Sem Value) (pins : List (Addr × Obj)) (s : Shared) (σ : St) (H : Hp) (Q : Bool → Hp → Prop), Inv X pins σ H s → t σ H Q → wpAny (model X.prog X.w) X.A (isTrue e X.env whole) (TP X pins σ Q) X.xe s
theorem PW.pt {X : Cx} {e : Expr} {t : TT} (h : PW X e t) : PT X e t := h _
def PA (X : Cx) (es : List Expr) (t : TA) : Prop :=
  ∀ (pos : Pos) (pins : List (Addr × Obj)) (s : Shared) (σ : St) (H : Hp) (Q : List V → Hp → Prop), Inv X pins σ H s → t σ H Q → wpAny (model X.prog X.w) X.A (spliced (backTo pos (starEach es X.env))) (AP X pins σ Q) X.xe s
def PS (X : Cx) (st : Stmt) (t : TS) : Prop :=
  ∀ (pins : List (Addr × Obj)) (s : Shared) (σ : St) (H : Hp) (D : Ends), Inv X pins σ H s → t D σ H → wpAny (model X.prog X.w) X.A (exec st X.env) (SP X pins D) X.xe s
def PSs (X : Cx) (st : List Stmt) (t : TS) : Prop :=
  ∀ (pins : List (Addr × Obj)) (s : Shared) (σ : St) (H : Hp) (D : Ends), Inv X pins σ H s → t D σ H → wpAny (model X.prog X.w) X.A (execs st X.env) (SP X pins D) X.xe s
theorem thn {α : Type} {t : Sem α} {Q Q' : α → Shared → Prop} {M : Model} {A : Around} {E : Value → Shared → Prop} {s : Shared} (h : wpAny M A t Q E s) (hQ : ∀ a s, Q a s → Q' a s) : wpAny M A t Q' E s := wpAny_mono h hQ fun _ _ x => x
end L2
namespace L2
open PySem PySem.Spec PyProof.Rows
section
variable {X : Cx}
def tVar (i : Nat) : TE := fun σ H Q => ∃ v, σ[i]? = some (some v) ∧ Q v H
def tC (v : V) : TE := fun _ H Q => Q v H
theorem pe_var {i : Nat} {x : Str} {pos : Pos} (hN : X.N[i]? = some x) (hv : Vis X.env.scope x) (hd : (x == ("__debug__" : Str)) = false := by decide) (hcd : (x == ("__classdict__" : Str)) = false := by decide) : PE X (.Name x pos) (tVar i) := by
  intro pins s σ H Q I h
  obtain ⟨v, e, h⟩ := h
  obtain ⟨m, hn, hl⟩ := I.loc
  obtain ⟨u, r, l⟩ := hl i x v hN e hv
  have fin : EP X pins σ Q u s := ⟨v, H, I, r, h⟩
  rcases l with ⟨hk, hm⟩ | ⟨hk, c, hc, hcell⟩
  · exact wpAny_Name (wpAny_loadName_local I.ok.kind hk hn hm fin) hd
  · rcases hk with hk | hk
    · exact wpAny_Name (wpAny_loadName_cell I.ok.kind hk hc hcell fin) hd
    · exact wpAny_Name (wpAny_loadName_free I.ok.kind hk hc hcell fin hcd) hd
theorem pe_int {i j pos} : PE X (.Constant (.int i) j pos) (tC (.int i)) := fun _ _ _ H _ I h => wpAny_Constant_int ⟨.int i, H, I.tok _, ⟨_, rfl⟩, h⟩
theorem pe_bl {b j pos} : PE X (.Constant (.bool b) j pos) (tC (.bl b)) := fun _ _ _ H _ I h => Constant_bool ⟨.bl b, H, I, rfl, h⟩
theorem pe_non {j pos} : PE X (.Constant .none j pos) (tC .non) := fun _ _ _ H _ I h => Constant_none ⟨.non, H, I, rfl, h⟩
def Gl (X : Cx) (x : Str) : Prop := X.env.kindOf x = some .globalImplicit
theorem ld_glob {E : Value → Shared → Prop} {pins : List (Addr × Obj)} {s : Shared} {σ : St} {H : Hp} {x : Str} {u : Value} {pos : Pos} {Q : Value → Shared → Prop} (I : Inv X pins σ H s) (hg : Gl X x) (hm : X.mg x = some u) (h : Q u s)
    (hd : (x == ("__debug__" : Str)) = false := by decide) : wpAny (model X.prog X.w) X.A (eval (.Name x pos) X.env) Q E s :=
  Calls.Name_function_global I.ok.kind hg (Calls.loadGlobal_global (by rw [I.ok.glob]; exact I.mod.glob.keeps I.bk) hm h) hd
theorem ld_blt {E : Value → Shared → Prop} {pins : List (Addr × Obj)} {s : Shared} {σ : St} {H : Hp} {x : Str} {u : Value} {pos : Pos} {Q : Value → Shared → Prop} (I : Inv X pins σ H s) (hg : Gl X x) (hm : X.mg x = none) (hv : bootBuiltins x = some u) (h : Q u s)
    (hn : x ≠ "__name__" := by decide) (hd : (x == ("__debug__" : Str)) = false := by decide) : wpAny (model X.prog X.w) X.A (eval (.Name x pos) X.env) Q E s := by
  obtain ⟨mb, h1, h2⟩ := I.mod.blt
  exact Calls.Name_function_global I.ok.kind hg (Calls.loadGlobal_builtin (by rw [I.ok.glob]; exact I.mod.glob.keeps I.bk) hm (by rw [I.ok.blt]; exact h1.keeps I.bk) ((h2 x hn).trans hv) h) hd
theorem pe_glob {x : Str} {v : V} {u : Value} {pos : Pos} (hg : Gl X x) (hm : X.mg x = some u) (r : RelV v u) (hd : (x == ("__debug__" : Str)) = false := by decide) : PE X (.Name x pos) (tC v) :=
  fun _ _ _ H _ I h => ld_glob I hg hm ⟨v, H, I, r, h⟩ hd
variable {a b : Expr} {ta tb : TE} {pos : Pos}
def tB (t : TE) : TT := fun σ H Q => t σ H fun x H1 => ∃ c, x = .bl c ∧ Q c H1
theorem pt_val {e : Expr} {t : TE} (h : PE X e t) (he : ∀ whole, isTrue e X.env whole = (do let v ← whole; standAt e.pos; holding [v] (truthy v)) := by intro _; rfl) : PT X e (tB t) := by
  intro pins s σ H Q I hw
  refine isTrue_plain (thn (h pins s σ H _ I hw) fun v s1 ⟨x, H1, I1, r1, q1⟩ => ?_) (he _)
  obtain ⟨d, rfl, q⟩ := q1
  cases r1
  exact wpAny_truthy_bool ⟨H1, I1, q⟩
variable {tA tB' : TT} {rest : List Expr}
def tAnd (t u : TT) : TT := fun σ H Q => t σ H fun c H1 => if c = true then u σ H1 Q else Q false H1
def tOr (t u : TT) : TT := fun σ H Q => t σ H fun c H1 => if c = true then Q true H1 else u σ H1 Q
theorem pw_and1 (ha : PT X a tA) : PW X (.BoolOp .And [a] pos) tA := by
  intro wh pins s σ H Q I h
  refine isTrue_and (thn (ha pins s σ H Q I h) fun c s1 e => ?_)
  cases c with
  | true => exact isTrue_and_nil e
  | false => exact e
theorem pw_or1 (ha : PT X a tA) : PW X (.BoolOp .Or [a] pos) tA := by
  intro wh pins s σ H Q I h
  refine isTrue_or (thn (ha pins s σ H Q I h) fun c s1 e => ?_)
  cases c with
  | false => exact isTrue_or_nil e
  | true => exact e
theorem pw_and (ha : PT X a tA) (hb : PW X (.BoolOp .And (b :: rest) pos) tB') : PW X (.BoolOp .And (a :: b :: rest) pos) (tAnd tA tB') := by
  intro wh pins s σ H Q I h
  refine isTrue_and (thn (ha pins s σ H _ I h) fun c s1 ⟨H1, I1, q1⟩ => ?_)
  cases c with
  | true => exact hb wh pins s1 σ H1 Q I1 q1
  | false => exact ⟨H1, I1, q1⟩
theorem pw_or (ha : PT X a tA) (hb : PW X (.BoolOp .Or (b :: rest) pos) tB') : PW X (.BoolOp .Or (a :: b :: rest) pos) (tOr tA tB') := by
  intro wh pins s σ H Q I h
  refine isTrue_or (thn (ha pins s σ H _ I h) fun c s1 ⟨H1, I1, q1⟩ => ?_)
  cases c with
  | true => exact ⟨H1, I1, q1⟩
  | false => exact hb wh pins s1 σ H1 Q I1 q1
def tAndV (ta tb : TE) : TE := fun σ H Q => ta σ H fun x H1 => ∃ c, x = .bl c ∧ if c = true then tb σ H1 Q else Q (.bl false) H1
theorem pe_one {op} {t : TE} (h : PE X a t) : PE X (.BoolOp op [a] pos) t := fun pins s σ H Q I hw => BoolOp_one (h pins s σ H Q I hw)
theorem pe_and (ha : PE X a ta) (hb : PE X (.BoolOp .And (b :: rest) pos) tb) : PE X (.BoolOp .And (a :: b :: rest) pos) (tAndV ta tb) := by
  intro pins s σ H Q I h
  refine BoolOp_and (thn (ha pins s σ H _ I h) fun v s1 ⟨x, H1, I1, r1, q1⟩ => ?_)
  obtain ⟨c, rfl, q1⟩ := q1
  cases r1
  refine wpAny_truthy_bool ?_
  cases c with
  | true => exact hb pins s1 σ H1 Q I1 q1
  | false => exact ⟨.bl false, H1, I1, rfl, q1⟩
def tIf (t : TT) (ta tb : TE) : TE := fun σ H Q => t σ H fun c H1 => if c = true then ta σ H1 Q else tb σ H1 Q
theorem pe_ifExp {c : Expr} (hc : PT X c tA) (ha : PE X a ta) (hb : PE X b tb) : PE X (.IfExp c a b pos) (tIf tA ta tb) := by
  intro pins s σ H Q I h
  refine wpAny_IfExp (thn (hc pins s σ H _ I h) fun d s1 ⟨H1, I1, q1⟩ => ?_)
  cases d with
  | true => exact ha pins s1 σ H1 Q I1 q1
  | false => exact hb pins s1 σ H1 Q I1 q1
end
end L2
namespace L2
open PySem PySem.Spec PyProof.Rows
def SqL (K : PySem.W.Frag) (H : Hp) (a : Addr) (xs : List V) : Prop :=
  Rd H a (.lst xs) ∨
    ∃ (o : Obj) (its : Array Value) (n : Nat), K.lookup a = some o ∧ o.cls = .type "list" ∧ o.dict = none ∧ o.data = .seq its n ∧ its.size ≤ sizeLine ∧ Vals xs its.toList
def SqT (K : PySem.W.Frag) (H : Hp) (a : Addr) (xs : List V) : Prop :=
  Rd H a (.tup xs) ∨
    ∃ (o : Obj) (its : Array Value) (n : Nat), K.lookup a = some o ∧ o.cls = .type "tuple" ∧ o.data = .seq its n ∧ its.size ≤ sizeLine ∧ Vals xs its.toList
def absV : Value → Option V
  | .none => some .non
  | .bool b => some (.bl b)
  | .int i _ => some (.int i)
  | .str x _ => some (.str x)
  | .bytes b _ => some (.byt b)
  | .float b _ => some (.flt b)
  | .ref a => some (.ref a)
  | .type n => some (.ty n)
  | _ => none
theorem RelV.abs {x : V} {u : Value} (r : RelV x u) : absV u = some x := by
  cases x with
  | non => cases r; rfl
  | bl _ => cases r; rfl
  | int _ => obtain ⟨t, rfl⟩ := r; rfl
  | str _ => obtain ⟨t, rfl⟩ := r; rfl
  | byt _ => obtain ⟨t, rfl⟩ := r; rfl
  | flt _ => obtain ⟨t, rfl⟩ := r; rfl
  | ref _ => cases r; rfl
  | ty _ => cases r; rfl
theorem RelV.inj {x y : V} {u : Value} (r : RelV x u) (q : RelV y u) : x = y := Option.some.inj (r.abs.symm.trans q.abs)
theorem Vals.inj : ∀ {xs ys : List V} {us : List Value}, Vals xs us → Vals ys us → xs = ys
  | _, _, _, .nil, .nil => rfl
  | _, _, _, .cons r t, .cons r' t' => by rw [r.inj r', Vals.inj t t']
section
variable {X : Cx} {pins : List (Addr × Obj)} {σ : St} {H : Hp} {s : Shared} {a : Addr} {xs ys : List V}
theorem SqL.of {K : PySem.W.Frag} (h : H a = some (.lst xs)) : SqL K H a xs := .inl (.inl h)
theorem SqT.of {K : PySem.W.Frag} (h : H a = some (.tup xs)) : SqT K H a xs := .inl (.inl h)
theorem Inv.list (I : Inv X pins σ H s) (h : SqL X.K H a xs) : ∃ its : List Value, Vals xs its ∧ PlainL s.heap a its.toArray ∧ xs.length ≤ sizeLine := by
  rcases h with h | ⟨o, its, n, hk, hc, hd, hs, hz, r⟩
  · obtain ⟨z, its, n, r, e⟩ := h.ok I.hok
    exact ⟨its, r, ⟨_, n, e, rfl, rfl, rfl⟩, z⟩
  · refine ⟨its.toList, r, ⟨o, n, I.kIn a o hk, hc, hd, by simpa using hs⟩, ?_⟩
    have e := r.length
    simp only [Array.length_toList] at e
    omega
theorem Inv.tuple (I : Inv X pins σ H s) (h : SqT X.K H a xs) : ∃ its : List Value, Vals xs its ∧ IsTup s.heap a its.toArray ∧ xs.length ≤ sizeLine := by
  rcases h with h | ⟨o, its, n, hk, hc, hs, hz, r⟩
  · obtain ⟨z, its, r, p⟩ := h.ok I.hok
    exact ⟨its, r, p, z⟩
  · refine ⟨its.toList, r, ⟨o, I.kIn a o hk, hc, n, by simpa using hs⟩, ?_⟩
    have e := r.length
    simp only [Array.length_toList] at e
    omega
theorem Inv.list_inj (I : Inv X pins σ H s) (h : SqL X.K H a xs) (h' : SqL X.K H a ys) : xs = ys := by
  obtain ⟨its, r, ⟨o, n, e, _, _, d⟩, _⟩ := I.list h
  obtain ⟨its', r', ⟨o', n', e', _, _, d'⟩, _⟩ := I.list h'
  rw [e] at e'; cases e'
  rw [d] at d'
  injection d' with d1 _
  have : its = its' := by simpa using congrArg Array.toList d1
  subst this
  exact r.inj r'
theorem Inv.tuple_inj (I : Inv X pins σ H s) (h : SqT X.K H a xs) (h' : SqT X.K H a ys) : xs = ys := by
  obtain ⟨its, r, ⟨o, e, _, n, d⟩, _⟩ := I.tuple h
  obtain ⟨its', r', ⟨o', e', _, n', d'⟩, _⟩ := I.tuple h'
  rw [e] at e'; cases e'
  rw [d] at d'
  injection d' with d1 _
  have : its = its' := by simpa using congrArg Array.toList d1
  subst this
  exact r.inj r'
end
abbrev Cx.wish (X : Cx) (E : Value → Shared → Prop) : Cx := { X with xe := E }
abbrev Cx.nox (X : Cx) : Cx := X.wish fun _ _ => False
theorem Cx.Ok.wish {X : Cx} (ok : X.Ok) (E : Value → Shared → Prop) : (X.wish E).Ok :=
  ⟨ok.mod, ok.kind, ok.glob, ok.blt, ok.above, ok.inj, ok.has, ok.cab, ok.hd, ok.frames, ok.stk, ok.exf, ok.bs, ok.bsz, ok.noex, ok.exfs, ok.funs, ok.frf⟩
theorem Cx.Ok.unwish {X : Cx} {E : Value → Shared → Prop} (ok : (X.wish E).Ok) : X.Ok :=
  ⟨ok.mod, ok.kind, ok.glob, ok.blt, ok.above, ok.inj, ok.has, ok.cab, ok.hd, ok.frames, ok.stk, ok.exf, ok.bs, ok.bsz, ok.noex, ok.exfs, ok.funs, ok.frf⟩
section
variable {X : Cx} {pins : List (Addr × Obj)} {σ : St} {H : Hp} {s : Shared} {E : Value → Shared → Prop}
theorem Inv.wish (I : Inv X pins σ H s) (E : Value → Shared → Prop) : Inv (X.wish E) pins σ H s := ⟨I.ok.wish E, I.os, I.bare, I.base, I.loc, I.cell, I.free, I.freeC, I.pin, I.hok, I.len⟩
theorem Inv.unwish (I : Inv (X.wish E) pins σ H s) : Inv X pins σ H s := ⟨I.ok.unwish, I.os, I.bare, I.base, I.loc, I.cell, I.free, I.freeC, I.pin, I.hok, I.len⟩
theorem SP.unwish {D : Ends} {f : Flow} {s' : Shared} (h : SP (X.wish E) pins D f s') : SP X pins D f s' := by
  cases f with
  | next => obtain ⟨σ', H', I, q⟩ := h; exact ⟨σ', H', I.unwish, q⟩
  | brk => obtain ⟨σ', H', I, q⟩ := h; exact ⟨σ', H', I.unwish, q⟩
  | cont => obtain ⟨σ', H', I, q⟩ := h; exact ⟨σ', H', I.unwish, q⟩
  | ret u => obtain ⟨v, σ', H', I, r, q⟩ := h; exact ⟨v, σ', H', I.unwish, r, q⟩
theorem PE.nox {e : Expr} {t : TE} (h : PE X.nox e t) : PE X e t := fun pins s σ H Q I hw =>
  wpAny_mono (h pins s σ H Q (I.wish _) hw) (fun _ _ ⟨v, H', I', r, q⟩ => ⟨v, H', I'.unwish, r, q⟩) fun _ _ z => False.elim z
theorem PT.nox {e : Expr} {t : TT} (h : PT X.nox e t) : PT X e t := fun pins s σ H Q I hw =>
  wpAny_mono (h pins s σ H Q (I.wish _) hw) (fun _ _ ⟨H', I', q⟩ => ⟨H', I'.unwish, q⟩) fun _ _ z => False.elim z
theorem PSs.nox {st : List Stmt} {t : TS} (h : PSs X.nox st t) : PSs X st t := fun pins s σ H D I hw =>
  wpAny_mono (h pins s σ H D (I.wish _) hw) (fun _ _ q => q.unwish) fun _ _ z => False.elim z
end
section
variable {X : Cx} {st : Stmt} {rest : List Stmt} {t u : TS} {e : Expr} {te : TE} {pos : Pos}
def tNext : TS := fun D σ H => D.nx σ H
def tSeq (t u : TS) : TS := fun D σ H => t { D with nx := u D } σ H
theorem pss_nil : PSs X [] tNext := fun _ _ σ H _ I h => wpAny_execs_nil ⟨σ, H, I, h⟩
theorem pss_cons (h1 : PS X st t) (h2 : PSs X rest u) : PSs X (st :: rest) (tSeq t u) := by
  intro pins s σ H D I h
  refine wpAny_execs_cons (thn (h1 pins s σ H { D with nx := u D } I h) fun f s1 q => ?_)
  cases f with
  | next =>
    obtain ⟨σ', H', I', q⟩ := q
    exact h2 pins s1 σ' H' D I' q
  | ret v => exact q
  | brk => exact q
  | cont => exact q
theorem pss_one (h1 : PS X st t) : PSs X [st] t := by
  intro pins s σ H D I h
  refine wpAny_execs_cons (thn (h1 pins s σ H D I h) fun f s1 q => ?_)
  cases f with
  | next => exact wpAny_execs_nil q
  | ret v => exact q
  | brk => exact q
  | cont => exact q
theorem Inv.quiet {pins : List (Addr × Obj)} {σ : St} {H : Hp} {s : Shared} (I : Inv X pins σ H s) : interactive X.env = false := by simp [interactive, I.ok.kind]
def tDrop (te : TE) : TS := fun D σ H => te σ H fun _ H1 => D.nx σ H1
theorem ps_expr (he : PE X e te) (hs : swapsWith e none pos.line X.env = pure false := by rfl) : PS X (.Expr e pos) (tDrop te) := by
  intro pins s σ H D I h
  exact wpAny_Expr_any (thn (he pins s σ H _ I h) fun v s1 ⟨x, H1, I1, r1, q1⟩ => ⟨σ, H1, I1, q1⟩) I.quiet hs
def tRet (te : TE) : TS := fun D σ H => te σ H D.rt
theorem ps_ret (he : PE X e te) : PS X (.Return (some e) pos) (tRet te) := by
  intro pins s σ H D I h
  exact wpAny_Return_some (thn (he pins s σ H _ I h) fun v s1 ⟨x, H1, I1, r1, q1⟩ => ⟨x, σ, H1, I1, r1, q1⟩)
def tIfS (c : TT) (t u : TS) : TS := fun D σ H => c σ H fun b H1 => if b = true then t D σ H1 else u D σ H1
theorem ps_if {c : Expr} {a b : List Stmt} {tc : TT} (hc : PT X c tc) (ha : PSs X a t) (hb : PSs X b u) : PS X (.If c a b pos) (tIfS tc t u) := by
  intro pins s σ H D I h
  refine wpAny_If (thn (hc pins s σ H _ I h) fun d s1 ⟨H1, I1, q1⟩ => ?_)
  cases d with
  | true => exact ha pins s1 σ H1 D I1 q1
  | false => exact hb pins s1 σ H1 D I1 q1
def tNever : TS := fun _ _ _ => False
theorem ps_never : PS X st tNever := fun _ _ _ _ _ _ h => h.elim
end
abbrev TG := V → St → Hp → (St → Hp → Prop) → Prop
abbrev TGs := List V → St → Hp → (St → Hp → Prop) → Prop
def PG (X : Cx) (target : Expr) (t : TG) : Prop :=
  ∀ (pins : List (Addr × Obj)) (s : Shared) (σ : St) (H : Hp) (v : V) (u : Value) (Q : St → Hp → Prop), Inv X pins σ H s → RelV v u → t v σ H Q →
    wpAny (model X.prog X.w) X.A (assign target X.env u) (fun _ s' => ∃ σ' H', Inv X pins σ' H' s' ∧ Q σ' H') X.xe s
def PGs (X : Cx) (ts : List Expr) (t : TGs) : Prop :=
  ∀ (pins : List (Addr × Obj)) (s : Shared) (σ : St) (H : Hp) (vs : List V) (us : List Value) (Q : St → Hp → Prop), Inv X pins σ H s → Vals vs us → t vs σ H Q →
    wpAny (model X.prog X.w) X.A (assignInOrder ((assignEach ts X.env).map (·.2)) us) (fun _ s' => ∃ σ' H', Inv X pins σ' H' s' ∧ Q σ' H') X.xe s
abbrev TSet := V → V → V → Hp → (Hp → Prop) → Prop
def PSet (X : Cx) (t : TSet) : Prop :=
  ∀ (pins : List (Addr × Obj)) (s : Shared) (σ : St) (H : Hp) (o i v : V) (ov iv u : Value) (Q : Hp → Prop), Inv X pins σ H s → RelV o ov → RelV i iv → RelV v u → t o i v H Q →
    wpAny (model X.prog X.w) X.A (setItem ov iv u) (fun _ s' => ∃ H', Inv X pins σ H' s' ∧ Q H') X.xe s
section
variable {X : Cx} {pos : Pos}
def gName (i : Nat) : TG := fun v σ H Q => Q (σ.set i (some v)) H
theorem pg_name {i : Nat} {x : Str} (hN : X.N.Nodup) (hi : X.N[i]? = some x) (hx : Loc X.env.scope x) (hf : X.fn x = true ∨ X.env.scope.names.lookup x = some .local := by first | exact .inl rfl | exact .inr rfl | assumption) : PG X (.Name x pos) (gName i) := by
  intro pins s σ H v u Q I r h
  exact wpAny_assign_Name (store_ok I hN hi hx r (fun s' I' => ⟨_, H, I', h⟩) hf)
def gNil : TGs := fun vs σ H Q => vs = [] ∧ Q σ H
def gCons (t : TG) (u : TGs) : TGs := fun vs σ H Q => ∃ v r, vs = v :: r ∧ t v σ H fun σ' H' => u r σ' H' Q
theorem pgs_nil : PGs X [] gNil := by
  intro pins s σ H vs us Q I r h
  obtain ⟨e, h⟩ := h
  subst e
  cases r
  exact assignInOrder_nil ⟨σ, H, I, h⟩
theorem pgs_cons {e : Expr} {es : List Expr} {t : TG} {u : TGs} (h1 : PG X e t) (h2 : PGs X es u)
    (hs : (assignEach (e :: es) X.env).map (·.2) = assign e X.env :: (assignEach es X.env).map (·.2) := by rfl) : PGs X (e :: es) (gCons t u) := by
  intro pins s σ H vs us Q I r h
  obtain ⟨v, vr, e1, h⟩ := h
  subst e1
  cases r with
  | cons r rr =>
    rw [hs]
    refine assignInOrder_cons (thn (h1 pins s σ H _ _ _ I r h) fun _ s1 ⟨σ1, H1, I1, q1⟩ => ?_)
    exact h2 pins s1 σ1 H1 _ _ Q I1 rr q1
def gTup (K : PySem.W.Frag) (n : Nat) (t : TGs) : TG := fun v σ H Q => ∃ a xs, v = .ref a ∧ SqT K H a xs ∧ xs.length = n ∧ t xs σ H Q
theorem pg_tup {es : List Expr} {k : Nat} {t : TGs} {n : Nat} (hc : X.calm = true) (h : PGs X es t)
    (hn : (assignEach es X.env).length = n := by rfl) (hst : (assignEach es X.env).findIdx? (·.1) = none := by rfl) : PG X (.Tuple es k pos) (gTup X.K n t) := by
  intro pins s σ H v u Q I r hw
  obtain ⟨a, xs, e1, hq, hl, hw⟩ := hw
  subst e1
  cases r
  obtain ⟨its, rv, ht, hz⟩ := I.tuple hq
  refine assign_Tuple_tuple (I.ok.hd hc) ht (by simp [hn, ← hl, rv.length]) hst fun h' hx => ?_
  have I1 : Inv X pins σ H { s with heap := h' } := I.kept (t' := s.toks) fun b o e => hx b o (Nat.ne_of_lt (Heap.lt_size e)) e
  exact h pins _ σ H xs _ Q I1 (by simpa using rv) hw
def gSub (to ti : TE) (t : TSet) : TG := fun v σ H Q => to σ H fun o H1 => ti σ H1 fun i H2 => t o i v H2 fun H3 => Q σ H3
theorem pg_sub {o i : Expr} {to ti : TE} {t : TSet} (ho : PE X o to) (hi : PE X i ti) (hs : PSet X t)
    (ha : ∀ v, assign (.Subscript o i pos) X.env v = (do
      let ov ← holding [v] (eval o X.env)
      let iv ← holding [v, ov] (eval i X.env)
      standAt pos
      holding [v, ov, iv] (setItem ov iv v)
      release [v, ov, iv] []) := by intro _; rfl) : PG X (.Subscript o i pos) (gSub to ti t) := by
  intro pins s σ H v u Q I r h
  rw [ha]
  refine wpAny_bind (wpAny_holding (thn (ho pins s σ H _ I h) fun ov s1 ⟨x, H1, I1, r1, q1⟩ => ?_))
  refine wpAny_bind (wpAny_holding (thn (hi pins s1 σ H1 _ I1 q1) fun iv s2 ⟨y, H2, I2, r2, q2⟩ => ?_))
  refine wpAny_bind (wpAny_standAt (wpAny_bind (wpAny_holding (thn (hs pins s2 σ H2 x y v ov iv u _ I2 r1 r2 r q2) fun _ s3 ⟨H3, I3, q3⟩ => ?_))))
  exact wpAny_release ⟨σ, H3, I3, q3⟩
def tAsg (te : TE) (g : TG) : TS := fun D σ H => te σ H fun x H1 => g x σ H1 D.nx
theorem ps_asg {tg e : Expr} {te : TE} {g : TG} (he : PE X e te) (hg : PG X tg g) (hs : swapsWithSole [tg] e pos.line X.env = pure false := by rfl) (hw : swappedStores [tg] e X.env = pure none := by rfl)
    (h1 : (assignEach [tg] X.env).map (·.2) = [assign tg X.env] := by rfl) : PS X (.Assign [tg] e pos) (tAsg te g) := by
  intro pins s σ H D I h
  refine wpAny_Assign_stores (thn (he pins s σ H _ I h) fun v s1 ⟨x, H1, I1, r1, q1⟩ => ?_) hs hw
  rw [h1]
  exact thn (hg pins s1 σ H1 x v _ I1 r1 q1) fun _ s2 q => q
theorem ps_set {i : Nat} {x : Str} {e : Expr} {te : TE} {pos' : Pos} (hN : X.N.Nodup) (hi : X.N[i]? = some x) (hx : Loc X.env.scope x) (he : PE X e te) (hs : swapsWith e (some (.Name x pos')) pos.line X.env = pure false := by rfl) (hf : X.fn x = true ∨ X.env.scope.names.lookup x = some .local := by first | exact .inl rfl | exact .inr rfl | assumption) :
    PS X (.Assign [.Name x pos'] e pos) (tAsg te (gName i)) := by
  intro pins s σ H D I h
  refine wpAny_Assign_Name (thn (he pins s σ H _ I h) fun v s1 ⟨y, H1, I1, r1, q1⟩ => ?_) hs
  exact store_ok I1 hN hi hx r1 (fun s2 I2 => ⟨_, H1, I2, q1⟩) hf
end
section
variable {X : Cx} {pos : Pos}
end
structure It where
  go : Nat → Hp → Prop
  yld : Nat → Hp → V → Hp → Prop
  stop : Nat → Hp → Prop
def FpOk (X : Cx) (pins : List (Addr × Obj)) (H : Hp) (b : Addr) : Prop :=
  H b = none ∧ b ≠ X.env.locals ∧ b ∉ X.fs ∧ (b ∈ X.ex ∨ X.s₀.heap.objs.size ≤ b) ∧ (∀ x c, X.env.cells.lookup x = some c → c ≠ b) ∧ ∀ p ∈ X.pn ++ pins, p.1 ≠ b
theorem Inv.fpOk {X : Cx} {pins : List (Addr × Obj)} {σ : St} {H H' : Hp} {s : Shared} {b : Addr} (I : Inv X pins σ H s) (hb : s.heap.objs.size ≤ b) (hn : H' b = none) : FpOk X pins H' b := by
  refine ⟨hn, Nat.ne_of_gt (Nat.lt_of_lt_of_le I.lt hb), I.nofs hb, .inr (Nat.le_trans I.sz hb), fun x c e z => ?_, fun p hp z => ?_⟩
  · obtain ⟨v, q⟩ := I.cell x c e
    exact absurd (Nat.lt_of_lt_of_le q.lt (by rw [z]; exact hb)) (Nat.lt_irrefl _)
  · exact absurd (Nat.lt_of_lt_of_le (Heap.lt_size (I.pin p hp).1) (by rw [z]; exact hb)) (Nat.lt_irrefl _)
structure Turn (P : Program) (w : World) (K : PySem.W.Frag) (tg : Expr) (J : It) (fp : List Addr) (it : Addr) (tn : Nat → Heap → Prop) : Prop where
  mem : it ∈ fp
  obj : ∀ i h, tn i h → ∀ b ∈ fp, ∃ o, h.get? b = some o ∧ ∀ v, o.data ≠ .cell v
  keep : ∀ i h h', tn i h → (∀ b ∈ fp, ∀ o, h.get? b = some o → h'.get? b = some o) → tn i h'
  item : ∀ (X : Cx), X.prog = P → X.w = w → X.K = K → X.calm = true → ∀ (i : Nat) (pins : List (Addr × Obj)) (s : Shared) (σ : St) (H : Hp) (E : Value → Shared → Prop), Inv X pins σ H s → (∀ b ∈ fp, FpOk X pins H b) → tn i s.heap → J.go i H →
    wpAny (model P w) X.A (pyNext (.ref it)) (fun r s1 => ∃ u, r = some u ∧
      wpAny (model P w) X.A (letOwnedTupleGo tg (.ref it) u) (fun _ s2 => ∃ x H', Inv X pins σ H' s2 ∧ RelV x u ∧ J.yld i H x H' ∧ tn (i + 1) s2.heap ∧ ∀ b ∈ fp, H' b = none) E s1) E s
  done : ∀ (X : Cx), X.prog = P → X.w = w → X.K = K → X.calm = true → ∀ (i : Nat) (pins : List (Addr × Obj)) (s : Shared) (σ : St) (H : Hp) (E : Value → Shared → Prop), Inv X pins σ H s → (∀ b ∈ fp, FpOk X pins H b) → tn i s.heap → J.stop i H →
    wpAny (model P w) X.A (pyNext (.ref it)) (fun r s1 => r = none ∧ Inv X pins σ H s1) E s
  self : ∀ (A : Around) (i : Nat) (s : Shared) (Q : Value → Shared → Prop) (E : Value → Shared → Prop), tn i s.heap → Q (.ref it) s → wpAny (model P w) A (pyIter (.ref it)) Q E s
abbrev TI := St → Hp → (It → Hp → Prop) → Prop
def PIE (X : Cx) (pins : List (Addr × Obj)) (σ : St) (tg : Expr) (R : It → Hp → Prop) (itv : Value) (s2 : Shared) : Prop :=
  ∃ (it : Addr) (fp : List Addr) (tn : Nat → Heap → Prop) (J : It) (H' : Hp), itv = .ref it ∧ Inv X pins σ H' s2 ∧ Turn X.prog X.w X.K tg J fp it tn ∧ tn 0 s2.heap ∧ (∀ b ∈ fp, FpOk X pins H' b) ∧ R J H'
def PI (X : Cx) (tg iter : Expr) (wi : TI) : Prop :=
  ∀ (pins : List (Addr × Obj)) (s : Shared) (σ : St) (H : Hp) (R : It → Hp → Prop), Inv X pins σ H s → wi σ H R →
    wpAny (model X.prog X.w) X.A (eval iter X.env) (fun v s1 => wpAny (model X.prog X.w) X.A (pyIter v) (PIE X pins σ tg R) X.xe s1) X.xe s
theorem go_of {M : Model} {A : Around} {E : Value → Shared → Prop} {s : Shared} {tg : Expr} {it : Addr} {u : Value} {o : Obj} {n : String} {vs : Array Value} {Q : Unit → Shared → Prop} (ho : s.heap.get? it = some o) (hc : o.cls = .type n) (hd : o.data = .fields vs)
    (hn : ["enumerate", "zip", "dict_itemiterator", "dict_reverseitemiterator", "odict_iterator", "itertools.zip_longest", "itertools.pairwise"].contains n = false) (hQ : Q () s) : wpAny M A (letOwnedTupleGo tg (.ref it) u) Q E s := by
  unfold letOwnedTupleGo
  cases tg <;> first
    | exact wpAny_pure hQ
    | (cases u <;> first
        | exact wpAny_pure hQ
        | (refine wpAny_bind (wpAny_load ho ?_)
           rw [hc, hd]
           show wpAny M A (if (["enumerate", "zip", "dict_itemiterator", "dict_reverseitemiterator", "odict_iterator", "itertools.zip_longest", "itertools.pairwise"].contains n && vs[0]? == some (rawInt _)) = true then _ else _) Q E s
           rw [if_neg (by intro h; rw [hn, Bool.false_and] at h; cases h)]
           exact wpAny_pure hQ))
def Itl (K : PySem.W.Frag) (a : Addr) : It :=
  ⟨fun i H => ∃ xs x, SqL K H a xs ∧ xs[i]? = some x, fun i H x H' => H' = H ∧ ∀ xs, SqL K H a xs → xs[i]? = some x, fun i H => ∃ xs, SqL K H a xs ∧ xs.length ≤ i⟩
def Itt (K : PySem.W.Frag) (a : Addr) : It :=
  ⟨fun i H => ∃ xs x, SqT K H a xs ∧ xs[i]? = some x, fun i H x H' => H' = H ∧ ∀ xs, SqT K H a xs → xs[i]? = some x, fun i H => ∃ xs, SqT K H a xs ∧ xs.length ≤ i⟩
def Itr (lo : Int) (n : Nat) : It := ⟨fun i _ => i < n, fun i H x H' => H' = H ∧ x = .int (lo + i), fun i _ => n ≤ i⟩
theorem turn_list {P : Program} {w : World} {K : PySem.W.Frag} {tg : Expr} (a it : Addr) : Turn P w K tg (Itl K a) [it] it (fun i h => h.IsListIter it a i) where
  mem := by simp
  obj := fun i h st b hb => by
    have e : b = it := by simpa using hb
    subst e
    obtain ⟨o, e, c, d⟩ := st
    exact ⟨o, e, fun v z => by rw [d] at z; cases z⟩
  keep := fun i h h' st k => st.at fun o e => k it (by simp) o e
  item := by
    intro X hP hw hK hc i pins s σ H E I hf st hg
    subst hP hw hK
    obtain ⟨xs, x, hq, hx⟩ := hg
    obtain ⟨its, rv, p, hz⟩ := I.list hq
    obtain ⟨u, hu, ru⟩ := rv.get hx
    obtain ⟨f0, f1, f2, f3, f4, f5⟩ := hf it (by simp)
    refine wpAny_pyNext_list_item st p.isList (x := u) (by simpa using hu) fun h' st' sb => ?_
    have I1 : Inv X pins σ H { s with heap := h' } := I.turned (t' := s.toks) (fun b o hb e => (sb.2 b hb).trans e) f0 f1 f3 f4 f5
    obtain ⟨o, e, c, d⟩ := id st'
    exact ⟨u, rfl, go_of (s := { s with heap := h' }) e c d (by decide) ⟨x, H, I1, ru, ⟨rfl, fun ys hy => by rw [I.list_inj hy hq]; exact hx⟩, st', fun b hb => (hf b hb).1⟩⟩
  done := by
    intro X hP hw hK hc i pins s σ H E I hf st hg
    subst hP hw hK
    obtain ⟨xs, hq, hx⟩ := hg
    obtain ⟨its, rv, p, hz⟩ := I.list hq
    obtain ⟨f0, f1, f2, f3, f4, f5⟩ := hf it (by simp)
    have hl := rv.length
    exact wpAny_pyNext_list_end (I.ok.hd hc) st p.isList (by simp; omega) fun h' eb => ⟨rfl, I.turned (t' := s.toks) (fun b o hb e => eb b o hb e) f0 f1 f3 f4 f5⟩
  self := fun _ _ _ _ _ st h => wpAny_pyIter_listiter st h
theorem turn_tuple {P : Program} {w : World} {K : PySem.W.Frag} {tg : Expr} (a it : Addr) : Turn P w K tg (Itt K a) [it] it (fun i h => h.IsTupleIter it a i) where
  mem := by simp
  obj := fun i h st b hb => by
    have e : b = it := by simpa using hb
    subst e
    obtain ⟨o, e, c, d⟩ := st
    exact ⟨o, e, fun v z => by rw [d] at z; cases z⟩
  keep := fun i h h' st k => st.at fun o e => k it (by simp) o e
  item := by
    intro X hP hw hK hc i pins s σ H E I hf st hg
    subst hP hw hK
    obtain ⟨xs, x, hq, hx⟩ := hg
    obtain ⟨its, rv, p, hz⟩ := I.tuple hq
    obtain ⟨u, hu, ru⟩ := rv.get hx
    obtain ⟨f0, f1, f2, f3, f4, f5⟩ := hf it (by simp)
    refine wpAny_pyNext_tuple_item st (show s.heap.IsTuple a its.toArray from p) (x := u) (by simpa using hu) fun h' st' sb => ?_
    have I1 : Inv X pins σ H { s with heap := h' } := I.turned (t' := s.toks) (fun b o hb e => (sb.2 b hb).trans e) f0 f1 f3 f4 f5
    obtain ⟨o, e, c, d⟩ := id st'
    exact ⟨u, rfl, go_of (s := { s with heap := h' }) e c d (by decide) ⟨x, H, I1, ru, ⟨rfl, fun ys hy => by rw [I.tuple_inj hy hq]; exact hx⟩, st', fun b hb => (hf b hb).1⟩⟩
  done := by
    intro X hP hw hK hc i pins s σ H E I hf st hg
    subst hP hw hK
    obtain ⟨xs, hq, hx⟩ := hg
    obtain ⟨its, rv, p, hz⟩ := I.tuple hq
    obtain ⟨f0, f1, f2, f3, f4, f5⟩ := hf it (by simp)
    have hl := rv.length
    exact wpAny_pyNext_tuple_end (I.ok.hd hc) st (show s.heap.IsTuple a its.toArray from p) (by simp; omega) fun h' eb => ⟨rfl, I.turned (t' := s.toks) (fun b o hb e => eb b o hb e) f0 f1 f3 f4 f5⟩
  self := fun _ _ _ _ _ st h => wpAny_pyIter_tupleiter st h
theorem turn_range {P : Program} {w : World} {K : PySem.W.Frag} {tg : Expr} (it : Addr) (lo : Int) (n : Nat) : Turn P w K tg (Itr lo n) [it] it (fun i h => IsRangeIter h it (lo + (i : Nat) * 1) ((n : Int) - (i : Nat)) 1) where
  mem := by simp
  obj := fun i h st b hb => by
    have e : b = it := by simpa using hb
    subst e
    exact ⟨_, st, fun v z => by
      have z' : Data.fields _ = Data.cell v := z
      cases z'⟩
  keep := fun i h h' st k => k it (by simp) _ st
  item := by
    intro X hP hw hK hc i pins s σ H E I hf st hg
    subst hP hw hK
    obtain ⟨f0, f1, f2, f3, f4, f5⟩ := hf it (by simp)
    have W := Walks.range (prog := X.prog) (w := X.w) (I.ok.hd hc) it lo 1 n
    refine W.item i s _ _ hg st fun v h' tk hv st' kk => ?_
    obtain ⟨t, rfl⟩ := hv
    have I1 : Inv X pins σ H { s with heap := h', toks := tk } := I.turned (fun b o hb e => kk b o (by simpa using hb) e) f0 f1 f3 f4 f5
    refine ⟨_, rfl, go_of (s := { s with heap := h', toks := tk }) (n := "range_iterator") st' rfl rfl (by decide) ⟨.int (lo + i), H, I1, ⟨t, ?_⟩, ⟨rfl, rfl⟩, st', fun b hb => (hf b hb).1⟩⟩
    rw [Int.mul_one]
  done := by
    intro X hP hw hK hc i pins s σ H E I hf st hg
    subst hP hw hK
    obtain ⟨f0, f1, f2, f3, f4, f5⟩ := hf it (by simp)
    exact wpAny_pyNext_range_end (I.ok.hd hc) st (by have : n ≤ i := hg; omega) fun h' eb => ⟨rfl, I.turned (t' := s.toks) (fun b o hb e => eb b o hb e) f0 f1 f3 f4 f5⟩
  self := fun _ _ _ _ _ st h => wpAny_pyIter_rangeiter st h
end L2
namespace L2
open PySem PySem.Spec PyProof.Rows
section
variable {X : Cx} {tg : Expr}
def iList (K : PySem.W.Frag) (tl : TE) : TI := fun σ H R => tl σ H fun x H1 => ∃ a, x = .ref a ∧ (∃ xs, SqL K H1 a xs) ∧ R (Itl K a) H1
def iTup (K : PySem.W.Frag) (tl : TE) : TI := fun σ H R => tl σ H fun x H1 => ∃ a, x = .ref a ∧ (∃ xs, SqT K H1 a xs) ∧ R (Itt K a) H1
theorem pi_list {l : Expr} {tl : TE} (hl : PE X l tl) : PI X tg l (iList X.K tl) := by
  intro pins s σ H R I h
  refine thn (hl pins s σ H _ I h) fun v s1 ⟨x, H1, I1, r1, q1⟩ => ?_
  obtain ⟨a, e, ⟨xs, hq⟩, q⟩ := q1
  subst e
  cases r1
  obtain ⟨its, rv, p, hz⟩ := I1.list hq
  refine wpAny_pyIter_list p.isList ?_
  refine ⟨s1.heap.objs.size, [s1.heap.objs.size], _, _, H1, rfl, I1.kept (t' := s1.toks) fun b o e => Heap.get?_push_of_some _ e, turn_list a _, ⟨_, Heap.get?_push_size _ rfl, rfl, rfl⟩, fun b hb => ?_, q⟩
  have e : b = s1.heap.objs.size := by simpa using hb
  subst e
  exact I1.fpOk (Nat.le_refl _) (I1.hok.fresh (Nat.le_refl _))
theorem pi_tup {l : Expr} {tl : TE} (hl : PE X l tl) : PI X tg l (iTup X.K tl) := by
  intro pins s σ H R I h
  refine thn (hl pins s σ H _ I h) fun v s1 ⟨x, H1, I1, r1, q1⟩ => ?_
  obtain ⟨a, e, ⟨xs, hq⟩, q⟩ := q1
  subst e
  cases r1
  obtain ⟨its, rv, p, hz⟩ := I1.tuple hq
  refine wpAny_pyIter_tuple (show s1.heap.IsTuple a its.toArray from p) ?_
  refine ⟨s1.heap.objs.size, [s1.heap.objs.size], _, _, H1, rfl, I1.kept (t' := s1.toks) fun b o e => Heap.get?_push_of_some _ e, turn_tuple a _, ⟨_, Heap.get?_push_size _ rfl, rfl, rfl⟩, fun b hb => ?_, q⟩
  have e : b = s1.heap.objs.size := by simpa using hb
  subst e
  exact I1.fpOk (Nat.le_refl _) (I1.hok.fresh (Nat.le_refl _))
theorem range_it {pins : List (Addr × Obj)} {σ : St} {H : Hp} {s : Shared} {R : It → Hp → Prop} {E : Value → Shared → Prop} {lo hi : Int} {t u v : Tok} {tk : Nat} (I : Inv X pins σ H s) (h1 : -(2 ^ 62) ≤ lo) (h2 : lo < 2 ^ 62) (h3 : -(2 ^ 62) ≤ hi) (h4 : hi < 2 ^ 62)
    (q : R (Itr lo (hi - lo).toNat) H) : wpAny (model X.prog X.w) X.A (pyIter (.ref s.heap.objs.size)) (PIE X pins σ tg R) E { s with heap := s.heap.push { cls := .type "range", data := .fields #[.int lo t, .int hi u, .int 1 v] }, toks := tk } := by
  refine wpAny_pyIter_range (IsRange.new ..) (small_one h1 h2 h3 h4) ?_
  have I1 : Inv X pins σ H { s with heap := s.heap.push { cls := .type "range", data := .fields #[.int lo t, .int hi u, .int 1 v] }, toks := tk } := I.kept fun b o e => Heap.get?_push_of_some _ e
  refine ⟨(s.heap.push { cls := .type "range", data := .fields #[.int lo t, .int hi u, .int 1 v] }).objs.size, [(s.heap.push { cls := .type "range", data := .fields #[.int lo t, .int hi u, .int 1 v] }).objs.size], _, _, H, rfl,
    I1.kept (t' := tk) fun b o e => Heap.get?_push_of_some _ e, turn_range _ lo (hi - lo).toNat, ?_, fun b hb => ?_, q⟩
  · have e1 : lo + ((0 : Nat) : Int) * 1 = lo := by simp
    have e2 : (((hi - lo).toNat : Nat) : Int) - ((0 : Nat) : Int) = Builtin.Range.rangeSize lo hi 1 := by rw [rangeSize_one]; split <;> omega
    show IsRangeIter _ _ (lo + ((0 : Nat) : Int) * 1) ((((hi - lo).toNat : Nat) : Int) - ((0 : Nat) : Int)) 1
    rw [e1, e2]
    exact Heap.get?_push_size _ rfl
  · have e : b = (s.heap.push { cls := .type "range", data := .fields #[.int lo t, .int hi u, .int 1 v] }).objs.size := by simpa using hb
    subst e
    exact I1.fpOk (Nat.le_refl _) (I1.hok.fresh (Nat.le_refl _))
def iRng1 (ta : TA) : TI := fun σ H R => ta σ H fun vs H1 => ∃ j : Int, vs = [.int j] ∧ -(2 ^ 62) ≤ j ∧ j < 2 ^ 62 ∧ R (Itr 0 j.toNat) H1
def iRng2 (ta : TA) : TI := fun σ H R => ta σ H fun vs H1 => ∃ i j : Int, vs = [.int i, .int j] ∧ (-(2 ^ 62) ≤ i ∧ i < 2 ^ 62 ∧ -(2 ^ 62) ≤ j ∧ j < 2 ^ 62) ∧ R (Itr i (j - i).toNat) H1
theorem pi_range1 {a : Expr} {ta : TA} {p pos : Pos} (hg : Gl X "range") (hm : X.mg "range" = none) (ha : PA X [a] ta) (hs : starEach [a] X.env = [(false, eval a X.env)] := by rfl) : PI X tg (.Call (.Name "range" p) [a] [] pos) (iRng1 ta) := by
  intro pins s σ H R I h
  refine Call_ (ld_blt I hg hm boot_range (PyProof.Rows.callWith_type1 (thn (ha pos pins s σ H _ I h) fun us s1 ⟨vs, H1, I1, r1, q1⟩ => ?_) hs rfl))
  obtain ⟨j, e, q1, q2, q⟩ := q1
  subst e
  cases r1 with
  | cons r rr =>
    cases rr
    obtain ⟨t, rfl⟩ := r
    exact call_range_1 (range_it I1 (by omega) (by omega) q1 q2 (by simpa using q))
theorem pi_range2 {a b : Expr} {ta : TA} {p pos : Pos} (hg : Gl X "range") (hm : X.mg "range" = none) (ha : PA X [a, b] ta) (hs : starEach [a, b] X.env = [(false, eval a X.env), (false, eval b X.env)] := by rfl) (hs2 : starEach [b] X.env = [(false, eval b X.env)] := by rfl) :
    PI X tg (.Call (.Name "range" p) [a, b] [] pos) (iRng2 ta) := by
  intro pins s σ H R I h
  refine Call_ (ld_blt I hg hm boot_range (PyProof.Rows.callWith_type1 (thn (ha pos pins s σ H _ I h) fun us s1 ⟨vs, H1, I1, r1, q1⟩ => ?_) (by rw [hs, hs2]) (by rw [hs2]; rfl)))
  obtain ⟨i, j, e, ⟨q1, q2, q3, q4⟩, q⟩ := q1
  subst e
  cases r1 with
  | cons r rr =>
    cases rr with
    | cons r' rr =>
      cases rr
      obtain ⟨t, rfl⟩ := r
      obtain ⟨t', rfl⟩ := r'
      exact call_range_2 (range_it I1 q1 q2 q3 q4 q)
def tFor (wi : TI) (g : TG) (tb : TS) : TS := fun D σ H => wi σ H fun J H1 => ∃ W : Nat → Nat → St → Hp → Prop, (∃ m, W 0 m σ H1) ∧ ∀ i m σ H, W i m σ H →
  (J.stop i H ∧ D.nx σ H) ∨ (J.go i H ∧ ∃ N : St → Hp → Prop, (∀ σ' H', N σ' H' → ∃ m', m' < m ∧ W (i + 1) m' σ' H') ∧ ∀ x H', J.yld i H x H' → g x σ H' fun σ2 H2 => tb { D with nx := N, ct := N, bk := D.nx } σ2 H2)
def pinsAt (fp : List Addr) (h : Heap) : List (Addr × Obj) := fp.filterMap fun b => (h.get? b).map fun o => (b, o)
theorem mem_pinsAt {fp : List Addr} {h : Heap} {b : Addr} {o : Obj} (hb : b ∈ fp) (e : h.get? b = some o) : (b, o) ∈ pinsAt fp h := List.mem_filterMap.mpr ⟨b, hb, by rw [e]; rfl⟩
theorem of_pinsAt {fp : List Addr} {h : Heap} {p : Addr × Obj} (hp : p ∈ pinsAt fp h) : p.1 ∈ fp ∧ h.get? p.1 = some p.2 := by
  obtain ⟨b, hb, e⟩ := List.mem_filterMap.mp hp
  cases q : h.get? b with
  | none => rw [q] at e; cases e
  | some o =>
    rw [q] at e
    have e' : (b, o) = p := Option.some.inj e
    subst e'
    exact ⟨hb, q⟩
theorem Inv.pinned {pins : List (Addr × Obj)} {σ : St} {H : Hp} {s : Shared} {fp : List Addr} (I : Inv X pins σ H s) (hf : ∀ b ∈ fp, FpOk X pins H b) (ho : ∀ b ∈ fp, ∃ o, s.heap.get? b = some o ∧ ∀ v, o.data ≠ .cell v) : Inv X (pins ++ pinsAt fp s.heap) σ H s :=
  I.pins_of fun p hp => (List.mem_append.mp hp).elim (fun z => I.pin p (List.mem_append_right _ z)) fun z => by
    obtain ⟨hb, e⟩ := of_pinsAt z
    obtain ⟨f0, f1, f2, _⟩ := hf p.1 hb
    obtain ⟨o, e', d⟩ := ho p.1 hb
    rw [e] at e'; cases e'
    exact ⟨e, f0, f1, f2, d⟩
theorem Inv.unpinned {pins pl : List (Addr × Obj)} {σ : St} {H : Hp} {s : Shared} (I : Inv X (pins ++ pl) σ H s) : Inv X pins σ H s := I.pins_of fun p hp => I.pin p (List.mem_append_right _ (List.mem_append_left _ hp))
theorem ps_for {iter : Expr} {body : List Stmt} {wi : TI} {g : TG} {tb : TS} {pos : Pos} (hp : PassesOwn (model X.prog X.w) X.A X.env X.xe) (hc : X.calm = true) (hi : PI X tg iter wi) (hg : PG X tg g) (hb : PSs X body tb)
    (hs : ∀ x, foldedSetIterable iter X.env x = pure x := by intro _; rfl) : PS X (.For tg iter body [] pos) (tFor wi g tb) := by
  intro pins s σ H D I h
  refine wpAny_For (thn (hi pins s σ H _ I h) fun v s1 h1 => thn h1 fun itv s2 h2 => ?_) hs
  obtain ⟨it, fp, tn, J, H2, e, I2, T, st2, f2, W, ⟨m0, w0⟩, turn⟩ := h2
  subst e
  have stat : ∀ {H' : Hp}, (∀ b ∈ fp, H' b = none) → ∀ b ∈ fp, FpOk X pins H' b := fun hn b hb => ⟨hn b hb, (f2 b hb).2⟩
  refine codeAny_forLoop_any (fun n s' => ∃ i σ' H', Inv X pins σ' H' s' ∧ tn i s'.heap ∧ (∀ b ∈ fp, H' b = none) ∧ W i n σ' H') ?_ m0 ⟨0, σ, H2, I2, st2, fun b hb => (f2 b hb).1, w0⟩
  rintro n s3 ⟨i, σ3, H3, I3, st3, fr3, w3⟩
  rcases turn i n σ3 H3 w3 with ⟨stop, qn⟩ | ⟨go, N, hN, step⟩
  · refine wpAny_passesOwn hp (thn (T.done X rfl rfl rfl hc i pins s3 σ3 H3 X.xe I3 (stat fr3) st3 stop) fun r s4 ⟨hr, I4⟩ => ?_)
    subst hr
    exact wpAny_execs_nil ⟨σ3, H3, I4, qn⟩
  · refine wpAny_passesOwn hp (thn (T.item X rfl rfl rfl hc i pins s3 σ3 H3 X.xe I3 (stat fr3) st3 go) fun r s4 ⟨u, hr, h4⟩ => ?_)
    subst hr
    refine wpAny_passesOwn hp (thn h4 fun _ s5 ⟨x, H5, I5, r5, y5, st5, fr5⟩ => ?_)
    have I5' := I5.pinned (stat fr5) (T.obj _ _ st5)
    refine wpAny_passesOwn hp (thn (hg _ s5 σ3 H5 x u _ I5' r5 (step x H5 y5)) fun _ s6 ⟨σ6, H6, I6, q6⟩ => ?_)
    refine wpAny_passesOwn hp (thn (hb _ s6 σ6 H6 _ I6 q6) fun f s7 q7 => ?_)
    have again : ∀ {σ7 : St} {H7 : Hp}, Inv X (pins ++ pinsAt fp s5.heap) σ7 H7 s7 → N σ7 H7 → ∃ m, m < n ∧ ∃ i σ' H', Inv X pins σ' H' s7 ∧ tn i s7.heap ∧ (∀ b ∈ fp, H' b = none) ∧ W i m σ' H' := fun {σ7 H7} I7 n7 => by
      obtain ⟨m', hm, w7⟩ := hN σ7 H7 n7
      refine ⟨m', hm, i + 1, σ7, H7, I7.unpinned, T.keep _ _ _ st5 fun b hb o e => (I7.pin (b, o) (List.mem_append_right _ (List.mem_append_right _ (mem_pinsAt hb e)))).1, fun b hb => ?_, w7⟩
      obtain ⟨o, e, d⟩ := T.obj _ _ st5 b hb
      exact (I7.pin (b, o) (List.mem_append_right _ (List.mem_append_right _ (mem_pinsAt hb e)))).2.1
    cases f with
    | next => obtain ⟨σ7, H7, I7, n7⟩ := q7; exact again I7 n7
    | cont => obtain ⟨σ7, H7, I7, n7⟩ := q7; exact again I7 n7
    | brk => obtain ⟨σ7, H7, I7, q7⟩ := q7; exact ⟨σ7, H7, I7.unpinned, q7⟩
    | ret v => obtain ⟨x7, σ7, H7, I7, r7, q7⟩ := q7; exact ⟨x7, σ7, H7, I7.unpinned, r7, q7⟩
end
end L2
namespace L2
open PySem PySem.Spec PyProof.Rows
abbrev R2 := V → V → Hp → VK → Prop
def OpR (X : Cx) (f : Value → Value → Sem Value) (r : R2) : Prop :=
  ∀ (pins : List (Addr × Obj)) (s : Shared) (σ : St) (H : Hp) (x y : V) (v u : Value) (Q : VK), Inv X pins σ H s → RelV x v → RelV y u → r x y H Q →
    wpAny (model X.prog X.w) X.A (f v u) (EP X pins σ Q) X.xe s
def CallR (X : Cx) (f : Value) (r : List V → Hp → VK → Prop) : Prop :=
  ∀ (pins : List (Addr × Obj)) (s : Shared) (σ : St) (H : Hp) (xs : List V) (us : List Value) (Q : VK), Inv X pins σ H s → Vals xs us → r xs H Q →
    wpAny (model X.prog X.w) X.A (call f us) (EP X pins σ Q) X.xe s
def tOp (r : R2) (ta tb : TE) : TE := fun σ H Q => ta σ H fun x H1 => tb σ H1 fun y H2 => r x y H2 Q
def rI (C : Int → Int → Prop) (g : Int → Int → V) : R2 := fun x y H Q => ∃ i j, x = .int i ∧ y = .int j ∧ C i j ∧ Q (g i j) H
def rI0 (g : Int → Int → V) : R2 := fun x y H Q => ∃ i j, x = .int i ∧ y = .int j ∧ Q (g i j) H
section
variable {X : Cx} {a b c : Expr} {ta tb tc : TE} {pos : Pos}
theorem binT (ha : PE X a ta) (hb : PE X b tb) {pins : List (Addr × Obj)} {s : Shared} {σ : St} {H : Hp} {R : V → V → Hp → Prop} (I : Inv X pins σ H s)
    (h : ta σ H fun x H1 => tb σ H1 fun y H2 => R x y H2) {Q : Value → Shared → Prop} {f : Value → Value → Sem Value}
    (hf : ∀ v u s2 x y H2, Inv X pins σ H2 s2 → RelV x v → RelV y u → R x y H2 → wpAny (model X.prog X.w) X.A (f v u) Q X.xe s2) :
    wpAny (model X.prog X.w) X.A (eval a X.env) (fun v s₁ => wpAny (model X.prog X.w) X.A (eval b X.env) (fun u s₂ => wpAny (model X.prog X.w) X.A (f v u) Q X.xe s₂) X.xe s₁) X.xe s := by
  refine thn (ha pins s σ H _ I h) fun v s1 ⟨x, H1, I1, r1, q1⟩ => ?_
  refine thn (hb pins s1 σ H1 _ I1 q1) fun u s2 ⟨y, H2, I2, r2, q2⟩ => ?_
  exact hf v u s2 x y H2 I2 r1 r2 q2
theorem pe_op {op : Operator} {r : R2} (ho : OpR X (binaryOp op) r) (ha : PE X a ta) (hb : PE X b tb) : PE X (.BinOp a op b pos) (tOp r ta tb) := by
  intro pins s σ H Q I h
  exact wpAny_BinOp (binT ha hb I h fun v u s2 x y H2 I2 rx ry q => ho pins s2 σ H2 x y v u Q I2 rx ry q)
theorem opI {f : Value → Value → Sem Value} {C : Int → Int → Prop} {g : Int → Int → Int}
    (rule : ∀ (i j : Int) (t u : Tok) (s : Shared) (Q : Value → Shared → Prop) (E : Value → Shared → Prop), C i j → Q (.int (g i j) s.toks) { s with toks := s.toks + 1 } → wpAny (model X.prog X.w) X.A (f (.int i t) (.int j u)) Q E s) :
    OpR X f (rI C fun i j => .int (g i j)) := by
  intro pins s σ H x y v u Q I rx ry h
  obtain ⟨i, j, rfl, rfl, hc, q⟩ := h
  obtain ⟨t, rfl⟩ := rx
  obtain ⟨t', rfl⟩ := ry
  exact rule i j t t' s _ _ hc ⟨.int (g i j), H, I.tok _, ⟨_, rfl⟩, q⟩
theorem opI0 {f : Value → Value → Sem Value} {g : Int → Int → Int}
    (rule : ∀ (i j : Int) (t u : Tok) (s : Shared) (Q : Value → Shared → Prop) (E : Value → Shared → Prop), Q (.int (g i j) s.toks) { s with toks := s.toks + 1 } → wpAny (model X.prog X.w) X.A (f (.int i t) (.int j u)) Q E s) :
    OpR X f (rI0 fun i j => .int (g i j)) := by
  intro pins s σ H x y v u Q I rx ry h
  obtain ⟨i, j, rfl, rfl, q⟩ := h
  obtain ⟨t, rfl⟩ := rx
  obtain ⟨t', rfl⟩ := ry
  exact rule i j t t' s _ _ ⟨.int (g i j), H, I.tok _, ⟨_, rfl⟩, q⟩
theorem opB0 {f : Value → Value → Sem Value} {g : Int → Int → Bool}
    (rule : ∀ (i j : Int) (t u : Tok) (s : Shared) (Q : Value → Shared → Prop) (E : Value → Shared → Prop), Q (.bool (g i j)) s → wpAny (model X.prog X.w) X.A (f (.int i t) (.int j u)) Q E s) :
    OpR X f (rI0 fun i j => .bl (g i j)) := by
  intro pins s σ H x y v u Q I rx ry h
  obtain ⟨i, j, rfl, rfl, q⟩ := h
  obtain ⟨t, rfl⟩ := rx
  obtain ⟨t', rfl⟩ := ry
  exact rule i j t t' s _ _ ⟨.bl (g i j), H, I, rfl, q⟩
def CDiv (i j : Int) : Prop := 0 < j ∧ j < 1073741824
def CPow (i j : Int) : Prop := 0 ≤ j ∧ j ≤ 1000000 ∧ i.natAbs < 2 ^ 64
def CMul (i j : Int) : Prop := (-(2 ^ 64) < i ∧ i < 2 ^ 64) ∨ (-(2 ^ 64) < j ∧ j < 2 ^ 64)
theorem CMul.ok {i j : Int} (h : CMul i j) : IntMulOk i j := by
  rcases h with ⟨h1, h2⟩ | ⟨h1, h2⟩
  · exact .of_left (intBits_le_64 h1 h2)
  · exact .of_right (intBits_le_64 h1 h2)
theorem op_add : OpR X (binaryOp .Add) (rI0 fun i j => .int (i + j)) := opI0 fun _ _ _ _ _ _ _ q => add_int q
theorem op_sub : OpR X (binaryOp .Sub) (rI0 fun i j => .int (i - j)) := opI0 fun _ _ _ _ _ _ _ q => sub_int q
theorem op_mul : OpR X (binaryOp .Mult) (rI CMul fun i j => .int (i * j)) := opI fun _ _ _ _ _ _ _ hc q => mul_int q hc.ok
theorem op_fdiv : OpR X (binaryOp .FloorDiv) (rI CDiv fun i j => .int (i / j)) := opI fun i j _ _ _ _ _ hc q => by
  have h1 : (0 : Int) < j := hc.1
  have h2 : j < 1073741824 := hc.2
  exact floordiv_int (by omega) (by rw [Int.fdiv_eq_ediv_of_nonneg i (by omega)]; exact q) (.inl (PyProof.noPylong_small (by omega)))
theorem op_mod : OpR X (binaryOp .Mod) (rI (fun _ j => 0 < j) fun i j => .int (i % j)) := opI fun i j _ _ _ _ _ hc q => by
  have h1 : (0 : Int) < j := hc
  exact mod_int' (by omega) (by rw [Int.fmod_eq_emod_of_nonneg i (by omega)]; exact q)
theorem op_pow : OpR X (binaryOp .Pow) (rI CPow fun i j => .int (i ^ j.toNat)) := opI fun _ _ _ _ _ _ _ hc q => pow_int_small hc.1 hc.2.1 hc.2.2 q
end
def scal : V → V → Bool
  | .non, .non => true | .non, .int _ => true | .int _, .non => true | .non, .bl _ => true | .bl _, .non => true | .non, .str _ => true | .str _, .non => true
  | .int _, .int _ => true | .bl _, .bl _ => true | .str _, .str _ => true | .byt _, .byt _ => true
  | .int _, .str _ => true | .str _, .int _ => true | .bl _, .str _ => true | .str _, .bl _ => true
  | _, _ => false
def rEq : R2 := fun x y H Q => scal x y = true ∧ Q (.bl (decide (x = y))) H
def rNe : R2 := fun x y H Q => scal x y = true ∧ Q (.bl (!decide (x = y))) H
theorem dec_int {i j : Int} : decide (V.int i = V.int j) = (i == j) := by
  rw [Bool.eq_iff_iff]
  simp
theorem dec_bl {i j : Bool} : decide (V.bl i = V.bl j) = (i == j) := by
  rw [Bool.eq_iff_iff]
  simp
theorem dec_str {i j : Str} : decide (V.str i = V.str j) = (i == j) := by
  rw [Bool.eq_iff_iff]
  simp
theorem dec_byt {i j : Array UInt8} : decide (V.byt i = V.byt j) = (i.toList == j.toList) := by
  rw [Bool.eq_iff_iff]
  cases i
  cases j
  simp
section
variable {X : Cx} {a b c : Expr} {ta tb tc : TE} {pos : Pos}
theorem fin_bl {pins : List (Addr × Obj)} {σ : St} {H : Hp} {s : Shared} {Q : VK} {k k' : Bool} (I : Inv X pins σ H s) (q : Q (.bl k) H) (e : k = k') : EP X pins σ Q (.bool k') s := by
  subst e
  exact ⟨.bl k, H, I, rfl, q⟩
theorem op_eq : OpR X (compareOp .Eq) rEq := by
  intro pins s σ H x y v u Q I rx ry h
  obtain ⟨hs, q⟩ := h
  cases x with
  | non =>
    cases rx
    cases y with
    | non => cases ry; exact PySem.EqNone.eq_none_none (fin_bl I q (by simp))
    | bl j => cases ry; exact PySem.EqNone.eq_none_bool (fin_bl I q (by simp))
    | int j => obtain ⟨t', rfl⟩ := ry; exact PySem.EqNone.eq_none_int (fin_bl I q (by simp))
    | str j => obtain ⟨t', rfl⟩ := ry; exact PySem.EqNone.eq_none_str (fin_bl I q (by simp))
    | _ => exact absurd (show false = true from hs) Bool.false_ne_true
  | bl i =>
    cases rx
    cases y with
    | non => cases ry; exact PySem.EqNone.eq_bool_none (fin_bl I q (by simp))
    | bl j => cases ry; exact eq_bool (fin_bl I q dec_bl)
    | str j => obtain ⟨t', rfl⟩ := ry; exact PySem.EqMixed.eq_bool_str (fin_bl I q (by simp))
    | _ => exact absurd (show false = true from hs) Bool.false_ne_true
  | int i =>
    obtain ⟨t, rfl⟩ := rx
    cases y with
    | non => cases ry; exact PySem.EqNone.eq_int_none (fin_bl I q (by simp))
    | int j => obtain ⟨t', rfl⟩ := ry; exact eq_int (fin_bl I q dec_int)
    | str j => obtain ⟨t', rfl⟩ := ry; exact PySem.EqMixed.eq_int_str (fin_bl I q (by simp))
    | _ => exact absurd (show false = true from hs) Bool.false_ne_true
  | str i =>
    obtain ⟨t, rfl⟩ := rx
    cases y with
    | non => cases ry; exact PySem.EqNone.eq_str_none (fin_bl I q (by simp))
    | bl j => cases ry; exact PySem.EqMixed.eq_str_bool (fin_bl I q (by simp))
    | int j => obtain ⟨t', rfl⟩ := ry; exact PySem.EqMixed.eq_str_int (fin_bl I q (by simp))
    | str j => obtain ⟨t', rfl⟩ := ry; exact eq_str (fin_bl I q dec_str)
    | _ => exact absurd (show false = true from hs) Bool.false_ne_true
  | byt i =>
    obtain ⟨t, rfl⟩ := rx
    cases y with
    | byt j => obtain ⟨t', rfl⟩ := ry; exact PySem.W.eq_bytes (fin_bl I q dec_byt)
    | _ => exact absurd (show false = true from hs) Bool.false_ne_true
  | _ => cases y <;> exact absurd (show false = true from hs) Bool.false_ne_true
theorem op_ne : OpR X (compareOp .NotEq) rNe := by
  intro pins s σ H x y v u Q I rx ry h
  obtain ⟨hs, q⟩ := h
  cases x with
  | non =>
    cases rx
    cases y with
    | non => cases ry; exact PySem.EqNone.ne_none_none (fin_bl I q (by simp))
    | bl j => cases ry; exact PySem.EqNone.ne_none_bool (fin_bl I q (by simp))
    | int j => obtain ⟨t', rfl⟩ := ry; exact PySem.EqNone.ne_none_int (fin_bl I q (by simp))
    | str j => obtain ⟨t', rfl⟩ := ry; exact PySem.EqNone.ne_none_str (fin_bl I q (by simp))
    | _ => exact absurd (show false = true from hs) Bool.false_ne_true
  | bl i =>
    cases rx
    cases y with
    | non => cases ry; exact PySem.EqNone.ne_bool_none (fin_bl I q (by simp))
    | bl j => cases ry; exact ne_bool (fin_bl I q (congrArg not dec_bl))
    | str j => obtain ⟨t', rfl⟩ := ry; exact PySem.EqMixed.ne_bool_str (fin_bl I q (by simp))
    | _ => exact absurd (show false = true from hs) Bool.false_ne_true
  | int i =>
    obtain ⟨t, rfl⟩ := rx
    cases y with
    | non => cases ry; exact PySem.EqNone.ne_int_none (fin_bl I q (by simp))
    | int j => obtain ⟨t', rfl⟩ := ry; exact ne_int (fin_bl I q (congrArg not dec_int))
    | str j => obtain ⟨t', rfl⟩ := ry; exact PySem.EqMixed.ne_int_str (fin_bl I q (by simp))
    | _ => exact absurd (show false = true from hs) Bool.false_ne_true
  | str i =>
    obtain ⟨t, rfl⟩ := rx
    cases y with
    | non => cases ry; exact PySem.EqNone.ne_str_none (fin_bl I q (by simp))
    | bl j => cases ry; exact PySem.EqMixed.ne_str_bool (fin_bl I q (by simp))
    | int j => obtain ⟨t', rfl⟩ := ry; exact PySem.EqMixed.ne_str_int (fin_bl I q (by simp))
    | str j => obtain ⟨t', rfl⟩ := ry; exact ne_str (fin_bl I q (congrArg not dec_str))
    | _ => exact absurd (show false = true from hs) Bool.false_ne_true
  | byt i =>
    obtain ⟨t, rfl⟩ := rx
    cases y with
    | byt j => obtain ⟨t', rfl⟩ := ry; exact PySem.W.ne_bytes (fin_bl I q (congrArg not dec_byt))
    | _ => exact absurd (show false = true from hs) Bool.false_ne_true
  | _ => cases y <;> exact absurd (show false = true from hs) Bool.false_ne_true
theorem op_lt : OpR X (compareOp .Lt) (rI0 fun i j => .bl (decide (i < j))) := opB0 fun _ _ _ _ _ _ _ q => lt_int q
theorem op_le : OpR X (compareOp .LtE) (rI0 fun i j => .bl (decide (i ≤ j))) := opB0 fun _ _ _ _ _ _ _ q => le_int q
theorem op_gt : OpR X (compareOp .Gt) (rI0 fun i j => .bl (decide (j < i))) := opB0 fun _ _ _ _ _ _ _ q => gt_int q
theorem op_ge : OpR X (compareOp .GtE) (rI0 fun i j => .bl (decide (j ≤ i))) := opB0 fun _ _ _ _ _ _ _ q => ge_int q
theorem op_isN : OpR X (compareOp .Is) (fun x y H Q => y = .non ∧ Q (.bl (decide (x = .non))) H) := by
  intro pins s σ H x y v u Q I rx ry h
  obtain ⟨rfl, q⟩ := h
  cases ry
  refine is_none_gen (fin_bl I q ?_)
  cases x <;> first
    | (cases rx; rfl)
    | (obtain ⟨t, rfl⟩ := rx; rfl)
theorem op_notN : OpR X (compareOp .IsNot) (fun x y H Q => y = .non ∧ Q (.bl (!decide (x = .non))) H) := by
  intro pins s σ H x y v u Q I rx ry h
  obtain ⟨rfl, q⟩ := h
  cases ry
  refine isnot_none_gen (fin_bl I q ?_)
  cases x <;> first
    | (cases rx; rfl)
    | (obtain ⟨t, rfl⟩ := rx; rfl)
theorem OpR.or {f : Value → Value → Sem Value} {r r' : R2} (h : OpR X f r) (h' : OpR X f r') : OpR X f (fun x y H Q => r x y H Q ∨ r' x y H Q) := by
  intro pins s σ H x y v u Q I rx ry q
  rcases q with q | q
  · exact h pins s σ H x y v u Q I rx ry q
  · exact h' pins s σ H x y v u Q I rx ry q
theorem nomark (b : Expr) {op : CmpOp} (h : op ≠ .In := by decide) (h2 : op ≠ .NotIn := by decide) : behindInMarks op b = false := by
  have e1 : (op == CmpOp.In) = false := by cases op <;> first | rfl | exact absurd rfl h
  have e2 : (op == CmpOp.NotIn) = false := by cases op <;> first | rfl | exact absurd rfl h2
  cases b <;> simp [behindInMarks, e1, e2]
theorem pe_cmpR {op : CmpOp} {r : R2} (ho : OpR X (compareOp op) r) (ha : PE X a ta) (hb : PE X b tb) (hm : behindInMarks op b = false) : PE X (.Compare a [op] [b] pos) (tOp r ta tb) := by
  intro pins s σ H Q I h
  exact wpAny_Compare1 (binT ha hb I h fun v u s2 x y H2 I2 rx ry q => ho pins s2 σ H2 x y v u Q I2 rx ry q) hm
def tTest (t : TE) : TT := fun σ H Q => t σ H fun x H' => ∃ k, x = .bl k ∧ Q k H'
theorem pt_cmpR {op : CmpOp} {r : R2} (ho : OpR X (compareOp op) r) (ha : PE X a ta) (hb : PE X b tb) (hm : behindInMarks op b = false) : PT X (.Compare a [op] [b] pos) (tTest (tOp r ta tb)) := by
  intro pins s σ H Q I h
  refine wpAny_isTrue_Compare1 (thn (ha pins s σ H _ I h) fun v s1 ⟨x, H1, I1, r1, q1⟩ => thn (hb pins s1 σ H1 _ I1 q1) fun u s2 ⟨y, H2, I2, r2, q2⟩ =>
    thn (ho pins s2 σ H2 x y v u _ I2 r1 r2 q2) fun c s3 ⟨z, H3, I3, r3, k, e, q3⟩ => ?_) hm
  subst e
  cases r3
  exact wpAny_truthy_bool ⟨H3, I3, q3⟩
theorem line63 : (sizeLine : Nat) < 2 ^ 63 := by rw [sizeLine_eq]; decide
theorem op_add_str : OpR X (binaryOp .Add) (fun x y H Q => ∃ i j, x = .str i ∧ y = .str j ∧ i.length + j.length ≤ sizeLine ∧ Q (.str (i ++ j)) H) := by
  intro pins s σ H x y v u Q I rx ry h
  obtain ⟨i, j, rfl, rfl, hz, q⟩ := h
  obtain ⟨t, rfl⟩ := rx
  obtain ⟨t', rfl⟩ := ry
  exact add_str (fun t' tk => ⟨.str (i ++ j), H, I.tok _, ⟨_, rfl⟩, q⟩) hz
theorem vals1 {x : V} {us : List Value} (r : Vals [x] us) : ∃ u, us = [u] ∧ RelV x u := by
  cases r with
  | cons r1 r2 => cases r2; exact ⟨_, rfl, r1⟩
theorem call_abs : CallR X (.builtin "abs") (fun xs H Q => ∃ i, xs = [.int i] ∧ Q (.int (if i < 0 then -i else i)) H) := by
  intro pins s σ H xs us Q I r h
  obtain ⟨i, rfl, q⟩ := h
  obtain ⟨u, rfl, t, rfl⟩ := vals1 r
  exact call_abs_int fun u tk => ⟨.int (if i < 0 then -i else i), H, I.tok _, ⟨_, rfl⟩, q⟩
end
end L2
namespace L2
open PySem PySem.Spec PyProof.Rows
section
variable {prog : Program} {w : World} {A : Around} {E : Value → Shared → Prop} {s : Shared} {K : PySem.W.Frag} {x dx C f : Addr} {mA : Str → Option Value} {name : Str} {v : Value}
end
section
variable {P : Program} {w : World} {H H' : Hp} {h h' : Heap} {a C dx : Addr} {fs fs' : List (Str × V)}
end
structure Cls (K : PySem.W.Frag) (C : Addr) : Prop where
  pg : PySem.W.plainGet K C Str.empty = true
  hd : PySem.W.hasDictIn K C = true
  po : PySem.W.plainOver K C = true
  sa : PySem.W.findIn K (.ref C) "__setattr__" = some (some (.builtin "object.__setattr__"))
theorem Cls.get {K : PySem.W.Frag} {C : Addr} (c : Cls K C) (f : Str) : PySem.W.plainGet K C f = true := c.pg
section
variable {X : Cx} {pins : List (Addr × Obj)} {σ : St} {H : Hp} {s : Shared} {a C dx : Addr} {fs : List (Str × V)} {f : Str} {v : V} {A : Around} {E : Value → Shared → Prop}
end
section
variable {X : Cx} {o e value : Expr} {f : Str} {pos pos' tpos : Pos} {ta tv : TE}
end
section
variable {X : Cx} {pins : List (Addr × Obj)} {σ : St} {H : Hp} {s : Shared} {A : Around} {E : Value → Shared → Prop} {Q : Value → Shared → Prop} {c : Value} {b : Bool}
end
end L2
namespace L2
open PySem PySem.Spec PyProof.Rows
structure Room (k : Nat) (A : Around) : Prop where
  hd : A.handled = none
  dp : A.depth + 3 * k + 5 < recursionLimit
  un : A.units + 16 * k + 200 < cLine
  gd : A.guards = some []
theorem Room.mono {j k : Nat} {A : Around} (r : Room k A) (h : j ≤ k) : Room j A := ⟨r.hd, by have := r.dp; omega, by have := r.un; omega, r.gd⟩
theorem Room.deeper {k : Nat} {A : Around} (r : Room (k + 1) A) (env : Env) : Room k (A.deeper env) :=
  ⟨r.hd, by have := r.dp; show A.depth + 1 + 3 * k + 5 < _; omega, by have := r.un; show A.units + 3 + 16 * k + 200 < _; omega, r.gd⟩
theorem Room.in1 {k : Nat} {A : Around} (r : Room (k + 1) A) : Room k A.in1 :=
  ⟨r.hd, by have := r.dp; show A.depth + 3 * k + 5 < _; omega, by have := r.un; show A.units + 1 + 16 * k + 200 < _; omega, r.gd⟩
theorem Room.depth {k : Nat} {A : Around} (r : Room k A) : A.depth < recursionLimit := by have := r.dp; omega
theorem Room.units {k : Nat} {A : Around} (r : Room k A) : A.units + 64 < cLine := by have := r.un; omega
def tNil : TA := fun _ H Q => Q [] H
def tCons (ta : TE) (tr : TA) : TA := fun σ H Q => ta σ H fun x H1 => tr σ H1 fun xs H2 => Q (x :: xs) H2
section
variable {X : Cx} {e : Expr} {es : List Expr} {te : TE} {t : TA} {pos : Pos}
theorem pa_nil : PA X [] tNil := fun _ _ _ _ H Q I h => Calls.spliced_nil ⟨[], H, I, .nil, h⟩
theorem pa_cons (ha : PE X e te) (hr : PA X es t) (hs : starEach (e :: es) X.env = (false, eval e X.env) :: starEach es X.env := by rfl) : PA X (e :: es) (tCons te t) := by
  intro pos pins s σ H Q I h
  rw [hs]
  show wpAny _ _ (spliced ((false, eval e X.env) :: backTo pos (starEach es X.env))) _ _ s
  refine Calls.spliced_cons (thn (ha pins s σ H _ I h) fun u s1 ⟨x, H1, I1, r1, q1⟩ => ?_)
  exact thn (hr pos pins s1 σ H1 _ I1 q1) fun us s2 ⟨xs, H2, I2, r2, q2⟩ => ⟨x :: xs, H2, I2, .cons r1 r2, q2⟩
def tTup (t : TA) : TE := fun σ H Q => t σ H fun xs H1 => xs.length ≤ sizeLine ∧ ∀ p, H1 p = none → Q (.ref p) (upd H1 p (.tup xs))
def tLst (t : TA) : TE := fun σ H Q => t σ H fun xs H1 => xs.length ≤ sizeLine ∧ ∀ p, H1 p = none → Q (.ref p) (upd H1 p (.lst xs))
theorem pe_tup {x1} (h : PA X es t) : PE X (.Tuple es x1 pos) (tTup t) := by
  intro pins s σ H Q I hq
  refine wpAny_Tuple_spliced (thn (h pos pins s σ H _ I hq) fun us s1 ⟨xs, H1, I1, r, z, q⟩ => ⟨by rw [← r.length]; exact z, ?_⟩)
  have hf : H1 s1.heap.objs.size = none := I1.hok.fresh (Nat.le_refl _)
  refine ⟨.ref s1.heap.objs.size, upd H1 s1.heap.objs.size (.tup xs), I1.laid (t' := s1.toks) (fun b u e => Heap.get?_push_of_some _ e) (Nat.le_refl _) ?_, rfl, q _ hf⟩
  exact ⟨z, us, r, ⟨_, Heap.get?_push_size _ rfl, rfl, _, rfl⟩⟩
theorem pe_lst (h : PA X es t) : PE X (.List es pos) (tLst t) := by
  intro pins s σ H Q I hq
  refine wpAny_List_spliced (thn (h pos pins s σ H _ I hq) fun us s1 ⟨xs, H1, I1, r, z, q⟩ => ⟨by rw [← r.length]; exact z, ?_⟩)
  have hf : H1 s1.heap.objs.size = none := I1.hok.fresh (Nat.le_refl _)
  refine ⟨.ref s1.heap.objs.size, upd H1 s1.heap.objs.size (.lst xs), I1.laid (t' := s1.toks) (fun b u e => Heap.get?_push_of_some _ e) (Nat.le_refl _) ?_, rfl, q _ hf⟩
  exact ⟨z, us, 0, r, Heap.get?_push_size _ rfl⟩
end
abbrev Sp := List V → Hp → VK → XK → Prop
abbrev CXT := List Env → Hp → Shared → XK → Value → Shared → Prop
structure Env0 (P : Program) (w : World) (K : PySem.W.Frag) (mg : Str → Option Value) (base : Heap) (A : Around) (outer : List Env) (s : Shared) (H : Hp) : Prop where
  frames : A.frames = some outer
  mod : Mod K mg base
  bs : ∀ b o, base.get? b = some o → s.heap.get? b = some o ∧ H b = none
  bsz : base.objs.size ≤ s.heap.objs.size
  funs : s.heap.FunFrames base outer
  frf : ∀ b ∈ frs outer, H b = none
  hok : HOk P w H s.heap
  bare : AllBare s.gens
def CE (outer : List Env) (P : Program) (w : World) (H : Hp) (s : Shared) (Q : VK) (u : Value) (s' : Shared) : Prop :=
  ∃ v H', s'.os = s.os ∧ AllBare s'.gens ∧ Un (frs outer) [] H H' s.heap s'.heap ∧ HOk P w H' s'.heap ∧ RelV v u ∧ Q v H'
def CR (CX : CXT) (outer : List Env) (P : Program) (w : World) (H : Hp) (s : Shared) (Q : VK) (E : XK) (r : Result) (s' : Shared) : Prop :=
  match r with
  | .ok (.ret u) => CE outer P w H s Q u s'
  | .ok _ => False
  | .error e => CX outer H s E e s'
structure FnOk (P : Program) (w : World) (K : PySem.W.Frag) (mg : Str → Option Value) (base : Heap) (CX : CXT) (k : Nat) (f : Addr) (fd : FuncData) (ps : List Str) (sp : Sp) : Prop where
  len : ∀ vs H Q E, sp vs H Q E → vs.length = ps.length
  run : ∀ (A : Around) (outer : List Env) (s : Shared) (H : Hp) (args : Args) (us : List Value) (vs : List V) (Q : VK) (E : XK), Room k A → Env0 P w K mg base A outer s H → BindsTo s fd args (ps.zip us) → Vals vs us → sp vs H Q E →
    codeAny (model P w) A (.call (.ref f) args) (CR CX outer P w H s Q E) s
theorem FnOk.mono {P : Program} {w : World} {K : PySem.W.Frag} {mg : Str → Option Value} {base : Heap} {CX : CXT} {j k : Nat} {f : Addr} {fd : FuncData} {ps : List Str} {sp : Sp} (F : FnOk P w K mg base CX j f fd ps sp) (h : j ≤ k) :
    FnOk P w K mg base CX k f fd ps sp := ⟨F.len, fun A outer s H args us vs Q E hr => F.run A outer s H args us vs Q E (hr.mono h)⟩
theorem FnOk.imp {P : Program} {w : World} {K : PySem.W.Frag} {mg : Str → Option Value} {base : Heap} {CX : CXT} {k : Nat} {f : Addr} {fd : FuncData} {ps : List Str} {sp sp' : Sp} (F : FnOk P w K mg base CX k f fd ps sp)
    (h : ∀ vs H Q E, sp' vs H Q E → sp vs H Q E) : FnOk P w K mg base CX k f fd ps sp' :=
  ⟨fun vs H Q E q => F.len vs H Q E (h _ _ _ _ q), fun A outer s H args us vs Q E hr he hb hv hs => F.run A outer s H args us vs Q E hr he hb hv (h _ _ _ _ hs)⟩
theorem Env0.in1 {P : Program} {w : World} {K : PySem.W.Frag} {mg : Str → Option Value} {base : Heap} {A : Around} {outer : List Env} {s : Shared} {H : Hp} (e : Env0 P w K mg base A outer s H) :
    Env0 P w K mg base A.in1 outer s H := ⟨e.frames, e.mod, e.bs, e.bsz, e.funs, e.frf, e.hok, e.bare⟩
section
variable {X : Cx} {pins : List (Addr × Obj)} {σ : St} {H : Hp} {s s' : Shared}
theorem Inv.env0 (I : Inv X pins σ H s) : Env0 X.prog X.w X.K X.mg X.base X.A X.stack s H :=
  ⟨I.ok.frames, I.ok.mod, I.bs, Nat.le_trans I.ok.bsz I.sz, I.stack, I.stkFree, I.hok, I.bare⟩
theorem Inv.after {Q : VK} {u : Value} (I : Inv X pins σ H s) (h : CE X.stack X.prog X.w H s Q u s') : EP X pins σ Q u s' := by
  obtain ⟨v, H', os, bare, un, hok, r, q⟩ := h
  obtain ⟨hh, g, d, t, os'⟩ := s'
  obtain rfl : os' = s.os := os
  exact ⟨v, H', I.call (h' := hh) (g' := g) (d' := d) (t' := t) (ch := []) un hok bare (fun b z => absurd z (by simp)), r, q⟩
end
def tCall (sp : Sp) (dvs : List V) (E : XK) (t : TA) : TE := fun σ H Q => t σ H fun vs H1 => sp (vs ++ dvs) H1 Q E
def Binds (K : PySem.W.Frag) (fd : FuncData) (ps : List Str) (ds : List Value) : Prop :=
  ∀ (s : Shared) (us : List Value), K.In s.heap → (us ++ ds).length = ps.length → BindsTo s fd ⟨us, []⟩ (ps.zip (us ++ ds))
theorem Binds.all {K : PySem.W.Frag} {fd : FuncData} {ps : List Str} (h : ∀ us : List Value, us.length = ps.length → bindArgs fd ⟨us, []⟩ = pure (ps.zip us)) : Binds K fd ps [] := fun s us _ hl => by
  rw [List.append_nil] at hl ⊢
  exact .of_eq (h us hl)
def Passes (CX : CXT) (X : Cx) (E : XK) : Prop := ∀ (pins : List (Addr × Obj)) (σ : St) (H : Hp) (s : Shared) (e : Value) (s' : Shared), Inv X pins σ H s → CX X.stack H s E e s' → X.xe e s'
section
variable {X : Cx} {CX : CXT} {k : Nat} {f C : Addr} {fd : FuncData} {ps : List Str} {sp : Sp} {dvs : List V} {ds : List Value} {E : XK} {x m : Str} {p pos apos : Pos} {e o : Expr} {es : List Expr} {ta : TE} {t : TA}
theorem run_fn {pins : List (Addr × Obj)} {σ : St} {H : Hp} {s : Shared} {Q : VK} {us : List Value} {vs : List V} (F : FnOk X.prog X.w X.K X.mg X.base CX k f fd ps sp) (hr : Room k X.A) (hb : Binds X.K fd ps ds) (hd : Vals dvs ds) (hx : Passes CX X E)
    (I : Inv X pins σ H s) (r : Vals vs us) (h : sp (vs ++ dvs) H Q E) : wpAny (model X.prog X.w) X.A (call (.ref f) us) (EP X pins σ Q) X.xe s := by
  have r2 : Vals (vs ++ dvs) (us ++ ds) := r.append hd
  have hl : (us ++ ds).length = ps.length := by rw [← r2.length]; exact F.len _ _ _ _ h
  refine wpAny_call (codeAny_mono (F.run X.A X.stack s H ⟨us, []⟩ (us ++ ds) (vs ++ dvs) Q E hr I.env0 (hb s us I.kIn hl) r2 h) fun r s' hq => ?_)
  cases r with
  | error e => exact hx pins σ H s e s' I hq
  | ok fl =>
    cases fl with
    | ret u => exact I.after hq
    | next => exact False.elim hq
    | brk => exact False.elim hq
    | cont => exact False.elim hq
theorem pe_call (F : FnOk X.prog X.w X.K X.mg X.base CX k f fd ps sp) (hr : Room k X.A) (hg : Gl X x) (hm : X.mg x = some (.ref f)) (hk : PySem.W.keepIn X.K (.ref f) = true) (hb : Binds X.K fd ps ds) (hd : Vals dvs ds) (hx : Passes CX X E)
    (ha : PA X (e :: es) t) (hdb : (x == ("__debug__" : Str)) = false := by decide) (he : starEach (e :: es) X.env = (false, eval e X.env) :: starEach es X.env := by rfl) (hpl : (backTo pos (starEach es X.env)).any (·.1) = false := by rfl) :
    PE X (.Call (.Name x p) (e :: es) [] pos) (tCall sp dvs E t) := by
  intro pins s σ H Q I h
  refine wpAny_Call_Name_kw (ld_glob I hg hm ?_ hdb)
  refine PySem.W.callWith_K (h₀ := X.base) I.ok.mod.kin hk (thn (ha pos pins s σ H _ I h) fun us s1 ⟨vs, H1, I1, r, q⟩ => ⟨I1.kIn, ?_⟩) he hpl
  exact run_fn F hr hb hd hx I1 r q
end
section
variable {X : Cx} {CX : CXT} {k : Nat} {f C : Addr} {fd : FuncData} {ps ks : List Str} {sp : Sp} {E : XK} {x m : Str} {p pos apos kpos : Pos} {e o : Expr} {es : List Expr} {kws : List Keyword} {te ta : TE} {t tk : TA} {nm : Option Str}
variable {g : List Value → List Value → List Value} {gV : List V → List V → List V}
end
structure FnScope (N P : List Str) (sc : Scope) : Prop where
  kind : sc.kind = .function
  co : sc.isCoroutine = false
  gen : sc.isGenerator = false
  nd : N.Nodup
  pre : N.take P.length = P
  par : ∀ x ∈ P, sc.names.lookup x = some .local ∨ sc.names.lookup x = some .cell
  nofree : ∀ y ∈ sc.names, y.2 ≠ .free
theorem bindL_out {kindOf : Str → Option NameKind} {x : Str} : ∀ {binds : List (Str × Value)} {m : Str → Option Value}, (∀ v, (x, v) ∉ binds) → bindL kindOf binds m x = m x
  | [], _, _ => rfl
  | (n, v) :: r, m, h => by
    unfold bindL
    rw [bindL_out fun w hw => h w (List.mem_cons_of_mem _ hw)]
    split
    · have : x ≠ n := by rintro rfl; exact h v List.mem_cons_self
      simp [this]
    · rfl
theorem bindC_out {kindOf : Str → Option NameKind} {x : Str} : ∀ {binds : List (Str × Value)} {m : Str → Option Value}, (∀ v, (x, v) ∉ binds) → bindC kindOf binds m x = m x
  | [], _, _ => rfl
  | (n, v) :: r, m, h => by
    unfold bindC
    rw [bindC_out fun w hw => h w (List.mem_cons_of_mem _ hw)]
    split
    · rfl
    · have : x ≠ n := by rintro rfl; exact h v List.mem_cons_self
      simp [this]
theorem bindL_get {kindOf : Str → Option NameKind} {x : Str} {v : Value} : ∀ {P : List Str} {vs : List Value} {i : Nat} {m : Str → Option Value}, P.Nodup → P[i]? = some x → vs[i]? = some v → kindOf x = some .local →
    bindL kindOf (P.zip vs) m x = some v
  | [], _, _, _, _, h, _, _ => by simp at h
  | _ :: _, [], _, _, _, _, h, _ => by simp at h
  | p :: P, w :: vs, 0, m, nd, h1, h2, hk => by
    simp at h1 h2; subst h1; subst h2
    show bindL kindOf ((p, w) :: P.zip vs) m p = _
    unfold bindL
    rw [bindL_out fun v hv => (List.nodup_cons.mp nd).1 (List.of_mem_zip hv).1, if_pos hk]
    simp
  | p :: P, w :: vs, i + 1, m, nd, h1, h2, hk => by
    show bindL kindOf ((p, w) :: P.zip vs) m x = _
    unfold bindL
    exact bindL_get (i := i) (List.nodup_cons.mp nd).2 (by simpa using h1) (by simpa using h2) hk
theorem bindC_get {kindOf : Str → Option NameKind} {x : Str} {v : Value} : ∀ {P : List Str} {vs : List Value} {i : Nat} {m : Str → Option Value}, P.Nodup → P[i]? = some x → vs[i]? = some v → kindOf x ≠ some .local →
    bindC kindOf (P.zip vs) m x = some v
  | [], _, _, _, _, h, _, _ => by simp at h
  | _ :: _, [], _, _, _, _, h, _ => by simp at h
  | p :: P, w :: vs, 0, m, nd, h1, h2, hk => by
    simp at h1 h2; subst h1; subst h2
    show bindC kindOf ((p, w) :: P.zip vs) m p = _
    unfold bindC
    rw [bindC_out fun v hv => (List.nodup_cons.mp nd).1 (List.of_mem_zip hv).1, if_neg hk]
    simp
  | p :: P, w :: vs, i + 1, m, nd, h1, h2, hk => by
    show bindC kindOf ((p, w) :: P.zip vs) m x = _
    unfold bindC
    exact bindC_get (i := i) (List.nodup_cons.mp nd).2 (by simpa using h1) (by simpa using h2) hk
def start (N : List Str) (vs : List V) : St := vs.map some ++ List.replicate (N.length - vs.length) none
def cxOf (CX : CXT) (P : Program) (w : World) (K : PySem.W.Frag) (mg : Str → Option Value) (base : Heap) (N : List Str) (qual : Str) (scope : Scope) (f : Addr) (cd : Value) (A : Around) (outer : List Env) (s : Shared) (H : Hp) (E : XK) : Cx where
  prog := P
  w := w
  K := K
  mg := mg
  base := base
  A := A.deeper (envOfC qual scope s.heap.objs.size f cd)
  N := N
  s₀ := s
  H₀ := H
  env := envOfC qual scope s.heap.objs.size f cd
  outer := outer
  stack := envOfC qual scope s.heap.objs.size f cd :: outer
  ex := []
  calm := true
  fn := fun _ => true
  pn := []
  xe := fun e s' => wpAny (model P w) (A.deeper (envOfC qual scope s.heap.objs.size f cd)) (leaving (envOfC qual scope s.heap.objs.size f cd) e) (fun _ s'' => CX outer H s E e s'') (fun e' s'' => CX outer H s E e' s'') s'
theorem cell_has {sc : Scope} {n : Nat} {x : Str} (h : sc.names.lookup x = some .cell) : ∃ c, (cellsFrom n sc.names []).lookup x = some c := by
  have q := PySem.W.cellsFrom_some sc.names n [] (.inl h)
  exact Option.isSome_iff_exists.mp q
theorem inv_start {CX : CXT} {P : Program} {w : World} {K : PySem.W.Frag} {mg : Str → Option Value} {base : Heap} {N ps : List Str} {qual : Str} {scope : Scope} {f : Addr} {cd : Value} {A : Around} {outer : List Env} {s s1 : Shared} {H : Hp} {E : XK} {us : List Value} {vs : List V}
    (S : FnScope N ps scope) (hd : A.handled = none) (e0 : Env0 P w K mg base A outer s H) (hl : vs.length = ps.length) (r : Vals vs us)
    (x : InCallC s s.heap.objs.size (bindL (envOfC qual scope s.heap.objs.size f cd).kindOf (ps.zip us) fun _ => none) (cellsFrom (s.heap.objs.size + 1) scope.names []) (bindC (envOfC qual scope s.heap.objs.size f cd).kindOf (ps.zip us) fun _ => none) s1) :
    Inv (cxOf CX P w K mg base N qual scope f cd A outer s H E) [] (start N vs) H s1 := by
  have hpl : ps.length ≤ N.length := by have := congrArg List.length S.pre; rw [List.length_take] at this; omega
  obtain ⟨h1, tk, rfl, hk⟩ := x.done
  have noA : ∀ b : Addr, b ∉ (cxOf CX P w K mg base N qual scope f cd A outer s H E).ex := fun b z => absurd (show b ∈ ([] : List Addr) from z) (by simp)
  refine ⟨⟨e0.mod, S.kind, rfl, rfl, Nat.le_refl _, fun y z c h1 h2 => ?_, fun y hy => ?_, fun y c _ h => ?_, fun _ => hd, Around.frames_deeper e0.frames, .inr ⟨rfl, rfl⟩, fun b z => absurd z (noA b), e0.bs, e0.bsz, fun b _ _ => noA b, fun b z => absurd z (noA b), e0.funs, e0.frf⟩,
    rfl, e0.bare, Un.kept hk, ⟨_, x.toInCall.ns, fun i y v h1 h2 h3 => ?_⟩, fun y c h => ⟨_, x.cell y c h⟩, e0.hok.fresh (Nat.le_refl _), fun y c h => ?_, fun p hp => absurd (show p ∈ ([] : List (Addr × Obj)) from hp) (by simp), e0.hok.kept hk, ?_⟩
  · exact name_of_addr x.apart (PySem.mem_of_lookup h1) (PySem.mem_of_lookup h2)
  · have hy : scope.names.lookup y = some .cell ∨ scope.names.lookup y = some .free := hy
    rcases hy with hy | hy
    · exact cell_has hy
    · exact absurd rfl (S.nofree _ (PySem.mem_of_lookup hy))
  · exact Nat.le_of_lt (x.above y c (PySem.mem_of_lookup h))
  · have hi : i < vs.length := by
      unfold start at h2
      by_cases hi : i < vs.length
      · exact hi
      · rw [List.getElem?_append_right (by simpa using hi)] at h2
        rw [List.getElem?_replicate] at h2
        split at h2 <;> cases h2
    have ha : vs[i]? = some v := by
      unfold start at h2
      rw [List.getElem?_append_left (by simpa using hi), List.getElem?_map] at h2
      cases e : vs[i]? with
      | none => rw [e] at h2; cases h2
      | some a => rw [e] at h2; cases h2; rfl
    obtain ⟨u, hu, rv⟩ := r.get ha
    have hp : ps[i]? = some y := by
      rw [← S.pre, List.getElem?_take_of_lt (by omega)]; exact h1
    have ndP : ps.Nodup := by rw [← S.pre]; exact S.nd.sublist (List.take_sublist _ _)
    refine ⟨u, rv, ?_⟩
    rcases S.par y (List.mem_of_getElem? hp) with k | k
    · exact .inl ⟨k, bindL_get ndP hp hu k⟩
    · obtain ⟨c, e⟩ := cell_has (n := s.heap.objs.size + 1) k
      refine .inr ⟨.inl k, c, e, ?_⟩
      have q := x.cell y c e
      rw [bindC_get ndP hp hu (by show scope.names.lookup y ≠ _; rw [k]; decide)] at q
      exact q
  · exact e0.hok.fresh (Nat.le_of_lt (x.above y c (PySem.mem_of_lookup h)))
  · unfold start
    show _ = N.length
    rw [List.length_append, List.length_map, List.length_replicate]
    omega
theorem fn_of {CX : CXT} {P : Program} {w : World} {K : PySem.W.Frag} {mg : Str → Option Value} {base : Heap} {k : Nat} {f : Addr} {name qual : Str} {params : Arguments} {body : List Stmt} {scope : Scope} {dV kV doc pm cdv ct oc : Value} {an od : Option Addr}
    {osl : Array (Option Value)} {N ps : List Str} {sp : Sp} (lk : K.lookup f = some ⟨oc, od, .func (PySem.W.fnOf name qual params body scope dV kV doc pm an cdv ct), osl⟩) (hcd : PySem.W.codeIn K cdv qual = true) (S : FnScope N ps scope)
    (len : ∀ vs H Q E, sp vs H Q E → vs.length = ps.length)
    (hbody : ∀ (A : Around) (outer : List Env) (s : Shared) (H : Hp) (vs : List V) (Q : VK) (E : XK), Room k (A.deeper (envOfC qual scope s.heap.objs.size f cdv)) → sp vs H Q E →
      ∃ t, PSs (cxOf CX P w K mg base N qual scope f cdv A outer s H E) body t ∧ t { nx := fun _ H' => Q .non H', rt := Q } (start N vs) H) :
    FnOk P w K mg base CX (k + 1) f (PySem.W.fnOf name qual params body scope dV kV doc pm an cdv ct) ps sp := by
  refine ⟨len, fun A outer s H args us vs Q E hr e0 hb r hsp => ?_⟩
  have hl := len _ _ _ _ hsp
  have KX : K.In s.heap := e0.mod.kin.keeps fun b o e => (e0.bs b o e).1
  have lim : s.heap.NoLimit := e0.mod.nolimit.keeps fun b o e => (e0.bs b o e).1
  have hkind : ∀ y ∈ ps.zip us, scope.names.lookup y.1 = some .local ∨ (scope.names.lookup y.1 = some .cell ∧ ((cellsFrom (s.heap.objs.size + 1) scope.names []).lookup y.1).isSome = true) := fun ⟨n, v⟩ hy => by
    rcases S.par n (List.of_mem_zip hy).1 with q | q
    · exact .inl q
    · exact .inr ⟨q, PySem.W.cellsFrom_some _ _ _ (.inl q)⟩
  refine codeAny_call_function hr.depth (KX _ _ lk) rfl S.co S.gen rfl (PySem.W.codeRec_of KX hcd) (hb _ _ _ _ ?_)
  refine wpAny_newFunctionEnv_cells S.kind hkind fun env he s1 x => ?_
  subst he
  refine ⟨lim.keeps x.toInCall.keep, codeAny_func ?_⟩
  obtain ⟨t, ht, hq⟩ := hbody A outer s H vs Q E (hr.deeper _) hsp
  have I : Inv (cxOf CX P w K mg base N qual scope f cdv A outer s H E) [] (start N vs) H s1 := inv_start S hr.hd e0 hl r x
  refine wpAny_mono (ht [] s1 (start N vs) H _ I hq) (fun fl s' hs => ?_) fun e s' hs => hs
  have fin : ∀ {σ' : St} {H' : Hp} {v : V} {u : Value}, Inv (cxOf CX P w K mg base N qual scope f cdv A outer s H E) [] σ' H' s' → RelV v u → Q v H' → CE outer P w H s Q u s' :=
    fun {σ' H' v u} J rv q => ⟨v, H', J.os, J.bare, J.base, J.hok, rv, q⟩
  cases fl with
  | ret u =>
    obtain ⟨v, σ', H', J, rv, q⟩ := hs
    exact fin J rv q
  | next =>
    obtain ⟨σ', H', J, q⟩ := hs
    exact fin (v := V.non) (u := Value.none) J rfl q
  | brk =>
    obtain ⟨_, _, _, q⟩ := hs
    exact False.elim q
  | cont =>
    obtain ⟨_, _, _, q⟩ := hs
    exact False.elim q
end L2
namespace L2
open PySem PySem.Spec PyProof.Rows
section
variable {X : Cx} {x : Str} {p pos : Pos} {e : Expr} {es : List Expr} {t : TA} {id T : String} {r : List V → Hp → VK → Prop}
def tCB (r : List V → Hp → VK → Prop) (t : TA) : TE := fun σ H Q => t σ H fun vs H1 => r vs H1 Q
theorem pe_callB (hc : CallR X (.builtin id) r) (hg : Gl X x) (hm : X.mg x = none) (hv : bootBuiltins x = some (.builtin id)) (ha : PA X (e :: es) t) (hn : x ≠ "__name__" := by decide) (hdb : (x == ("__debug__" : Str)) = false := by decide)
    (he : starEach (e :: es) X.env = (false, eval e X.env) :: starEach es X.env := by rfl) (hpl : (backTo pos (starEach es X.env)).any (·.1) = false := by rfl) : PE X (.Call (.Name x p) (e :: es) [] pos) (tCB r t) := by
  intro pins s σ H Q I h
  refine wpAny_Call_Name_kw (ld_blt I hg hm hv ?_ hn hdb)
  exact PyProof.Rows.callWith_builtin1 (thn (ha pos pins s σ H _ I h) fun us s1 ⟨vs, H1, I1, r1, q1⟩ => hc pins s1 σ H1 vs us Q I1 r1 q1) he hpl
theorem pe_callTy (hc : CallR X (.type T) r) (hg : Gl X x) (hm : X.mg x = none) (hv : bootBuiltins x = some (.type T)) (ha : PA X (e :: es) t) (hn : x ≠ "__name__" := by decide) (hdb : (x == ("__debug__" : Str)) = false := by decide)
    (he : starEach (e :: es) X.env = (false, eval e X.env) :: starEach es X.env := by rfl) (hpl : (backTo pos (starEach es X.env)).any (·.1) = false := by rfl) : PE X (.Call (.Name x p) (e :: es) [] pos) (tCB r t) := by
  intro pins s σ H Q I h
  refine wpAny_Call_Name_kw (ld_blt I hg hm hv ?_ hn hdb)
  exact PyProof.Rows.callWith_type1 (thn (ha pos pins s σ H _ I h) fun us s1 ⟨vs, H1, I1, r1, q1⟩ => hc pins s1 σ H1 vs us Q I1 r1 q1) he hpl
end
end L2
namespace HT
open PySem PyProof.Rows
section
open PySem.SeqAt
open PySem.AutoSeq1 (wpAny_loadPart')
open PySem.MeetsSeq PySem.MeetsSeq2 PySem.MeetsSeq3
end
section
variable {prog : Program} {w : World} {A : Around} {E : Value → Shared → Prop} {s : Shared}
theorem cat_tup {t b : Addr} {vs ws : List Value} {Q : Value → Shared → Prop} (ht : IsTup s.heap t vs.toArray) (hb : IsTup s.heap b ws.toArray) (hv : vs ≠ [])
    (h1 : ws = [] → Q (.ref t) s) (h2 : ws ≠ [] → Q (.ref s.heap.objs.size) { s with heap := s.heap.push { cls := .type "tuple", data := .seq (vs ++ ws).toArray } })
    (hsz : vs.length + ws.length ≤ sizeLine) : wpAny (model prog w) A (binaryOp .Add (.ref t) (.ref b)) Q E s := by
  obtain ⟨⟨cls, dd, data, sl⟩, ho, hc, n, hd⟩ := id ht
  obtain ⟨⟨cls2, dd2, data2, sl2⟩, ho2, hc2, n2, hd2⟩ := id hb
  simp only at hc hd hc2 hd2
  subst hc hd hc2 hd2
  have e : vs.toArray ++ ws.toArray = (vs ++ ws).toArray := by simp
  by_cases hw : ws = []
  · exact concat_meets ⟨_, ho, rfl⟩ ⟨_, ho2, rfl⟩ noFill_tuple_add seq_tuple_add PySem.F.slot_tuple_add PySem.F.entry_tuple_add (PySem.F.args_tuple_add_2 _ _)
      (tuple_addW1 t b vs.toArray ws.toArray n n2 dd dd2 sl sl2 (by simpa using hv) (by simp [hw])) ⟨ho, ho2, h1 hw⟩
  · refine concat_meets ⟨_, ho, rfl⟩ ⟨_, ho2, rfl⟩ noFill_tuple_add seq_tuple_add PySem.F.slot_tuple_add PySem.F.entry_tuple_add (PySem.F.args_tuple_add_2 _ _)
      (tuple_addW2 t b vs.toArray ws.toArray n n2 dd dd2 sl sl2 (by simpa using hv) (by simpa using hw) (by rw [List.size_toArray, List.size_toArray]; exact hsz)) ⟨ho, ho2, ?_⟩
    rw [e]
    exact h2 hw
def sIx (n d : Nat) : Option Int → Nat
  | none => d
  | some v => if v < 0 then (v + (n : Int)).toNat else min v.toNat n
theorem sIx_none (n d : Nat) : sIx n d none = d := rfl
theorem sIx_nat (n d k : Nat) : sIx n d (some (k : Int)) = min k n := by
  show (if (k : Int) < 0 then ((k : Int) + (n : Int)).toNat else min (k : Int).toNat n) = min k n
  rw [if_neg (by omega), Int.toNat_natCast]
theorem sIx_le (n d : Nat) (hd : d ≤ n) (o : Option Int) : sIx n d o ≤ n := by
  cases o with
  | none => exact hd
  | some v =>
    show (if v < 0 then (v + (n : Int)).toNat else min v.toNat n) ≤ n
    by_cases hv : v < 0
    · rw [if_pos hv]; omega
    · rw [if_neg hv]; exact Nat.min_le_right _ _
theorem clip_eq (v : Int) (n d : Nat) : (if v < 0 then max (v + (n : Int)) 0 else min v (n : Int)) = ((sIx n d (some v) : Nat) : Int) := by
  show (if v < 0 then max (v + (n : Int)) 0 else min v (n : Int)) = (((if v < 0 then (v + (n : Int)).toNat else min v.toNat n) : Nat) : Int)
  by_cases hv : v < 0
  · simp only [if_pos hv]; omega
  · simp only [if_neg hv]; omega
theorem adjust_gen (lo hi : Option Int) (n : Nat) : Builtin.Slice.sliceAdjust lo hi 1 (n : Int) = (((sIx n 0 lo : Nat) : Int), ((sIx n n hi : Nat) : Int)) := by
  have h1 : ¬ ((1 : Int) < 0) := by omega
  unfold Builtin.Slice.sliceAdjust
  simp only [h1, if_false]
  refine Prod.ext ?_ ?_
  · cases lo with
    | none => rfl
    | some v => exact clip_eq v n 0
  · cases hi with
    | none => rfl
    | some v => exact clip_eq v n n
theorem places_gen (i j : Nat) : Builtin.Slice.slicePlaces (i : Int) (j : Int) 1 = j - i := by
  unfold Builtin.Slice.slicePlaces
  have h1 : (1 : Int) > 0 := by omega
  simp only [h1, if_true, Int.ediv_one]
  split <;> omega
theorem slicePart_ {v : Value} {o : Option Int} {Q : Option Int → Shared → Prop} (p : IsPart v o) (h : Q o s) : wpAny (model prog w) A (Builtin.Slice.slicePartIndex v) Q E s := by
  cases p with
  | none => exact slicePart_none h
  | int i t => exact slicePart_int h
theorem sliceApplied_gen {sl : Addr} {vl vu : Value} {lo hi : Option Int} {n : Nat} {Q : Int × Int × Nat → Shared → Prop} (hs : s.heap.IsSliceOf sl vl vu .none) (pl : IsPart vl lo) (pu : IsPart vu hi)
    (h : Q (((sIx n 0 lo : Nat) : Int), 1, sIx n n hi - sIx n 0 lo) s) : wpAny (model prog w) A (Builtin.Slice.sliceApplied (.ref sl) (pure (n : Int))) Q E s := by
  obtain ⟨os, hos, hcs, hds⟩ := id hs
  unfold Builtin.Slice.sliceApplied Builtin.Slice.sliceFields
  refine wpAny_bind (wpAny_bind (wpAny_field hos hds (x := vl) rfl (wpAny_bind (wpAny_field hos hds (x := vu) rfl (wpAny_bind (wpAny_field hos hds (x := .none) rfl (wpAny_pure ?_)))))))
  refine wpAny_bind (slicePart_none ?_)
  show wpAny _ _ (if ((1 : Int) == 0) = true then _ else _) _ _ s
  rw [if_neg (by decide)]
  refine wpAny_bind (slicePart_ pl (wpAny_bind (slicePart_ pu (wpAny_bind (wpAny_pure ?_)))))
  show wpAny _ _ (match Builtin.Slice.sliceAdjust lo hi 1 (n : Int) with | (lo, hi) => pure (lo, (1 : Int), Builtin.Slice.slicePlaces lo hi 1)) _ _ s
  rw [adjust_gen lo hi n]
  show wpAny _ _ (pure (((sIx n 0 lo : Nat) : Int), (1 : Int), Builtin.Slice.slicePlaces ((sIx n 0 lo : Nat) : Int) ((sIx n n hi : Nat) : Int) 1)) _ _ s
  rw [places_gen]
  exact wpAny_pure h
theorem pick_gen (xs : Array Value) (i k : Nat) : ((List.range k).filterMap fun (m : Nat) => xs[((i : Int) + (m : Int) * 1).toNat]?).toArray = ((xs.toList.drop i).take k).toArray := by
  have e : (fun (m : Nat) => xs[((i : Int) + (m : Int) * 1).toNat]?) = fun m => xs[i + m]? := by
    funext m
    have : ((i : Int) + (m : Int) * 1).toNat = i + m := by omega
    rw [this]
  rw [e]
  have := pick_run xs i k
  rw [List.filterMap_map] at this
  have e2 : ((fun x => xs[x]?) ∘ fun x => i + x) = fun m => xs[i + m]? := rfl
  rw [e2] at this
  rw [this]
theorem getItem_tuple_cut {t sl : Addr} {items : Array Value} {vl vu : Value} {lo hi : Option Int} {Q : Value → Shared → Prop} (ht : IsTup s.heap t items) (hs : s.heap.IsSliceOf sl vl vu .none) (pl : IsPart vl lo) (pu : IsPart vu hi)
    (hw : ¬ (sIx items.size 0 lo = 0 ∧ sIx items.size items.size hi = items.size))
    (h : Q (.ref s.heap.objs.size) { s with heap := s.heap.push { cls := .type "tuple", data := .seq ((items.toList.drop (sIx items.size 0 lo)).take (sIx items.size items.size hi - sIx items.size 0 lo)).toArray } })
    (hsz : items.size ≤ sizeLine) : wpAny (model prog w) A (getItem (.ref t) (.ref sl)) Q E s := by
  have htake : sizeOk (.seq ((items.toList.drop (sIx items.size 0 lo)).take (sIx items.size items.size hi - sIx items.size 0 lo)).toArray) := by
    show ((items.toList.drop (sIx items.size 0 lo)).take (sIx items.size items.size hi - sIx items.size 0 lo)).toArray.size ≤ sizeLine
    rw [List.size_toArray, List.length_take, List.length_drop, Array.length_toList]
    omega
  have hj : sIx items.size items.size hi ≤ items.size := sIx_le _ _ (Nat.le_refl _) hi
  obtain ⟨os, hos, hcs, hds⟩ := id hs
  have hTs : s.TypeIs (.ref sl) "slice" := ⟨os, hos, hcs⟩
  unfold getItem
  try with_reducible refine wpAny_holding ?_
  first | refine wpAny_bind (wpAny_pure ?_) | skip
  refine wpAny_bind (wpAny_sequenceKey ht.typeIs (by decide) ?_)
  refine wpAny_bind (wpAny_callSpecial?_slot (name := Str.ofString "__getitem__") ht.typeIs PyProof.Rows.slot_tuple_getitem
    (wpAny_call_entry PyProof.Rows.slot_tuple_getitem ht.typeIs entry_tuple_getitem ?_ (args_tuple_getitem _ _)))
  show wpAny _ _ (Builtin.Tuple.tupleItemsOf (.ref t) >>= _) _ _ s
  refine wpAny_bind (tupleItemsOf_ ht ?_)
  refine wpAny_bind (wpAny_typeOf hTs ?_)
  rw [if_pos (by decide)]
  refine wpAny_bind (sliceApplied_gen hs pl pu ?_)
  have hno : ¬ ((((sIx items.size 0 lo : Nat) : Int) == 0 && (1 : Int) == 1 && (sIx items.size items.size hi - sIx items.size 0 lo) == items.size) = true) := by
    intro q
    rw [Bool.and_eq_true, Bool.and_eq_true] at q
    have q1 : ((sIx items.size 0 lo : Nat) : Int) = 0 := eq_of_beq q.1.1
    have q2 : sIx items.size items.size hi - sIx items.size 0 lo = items.size := eq_of_beq q.2
    exact hw ⟨by omega, by omega⟩
  show wpAny _ _ (if (((sIx items.size 0 lo : Nat) : Int) == 0 && (1 : Int) == 1 && (sIx items.size items.size hi - sIx items.size 0 lo) == items.size) = true then _ else _) _ _ s
  rw [if_neg hno, pick_gen]
  first
    | exact wpAny_bind (m := Builtin.Tuple.tupleExact _) (wpAny_newObj_type (wpAny_pure ⟨_, rfl, wpAny_pure h⟩) htake)
    | exact wpAny_bind (m := Builtin.Tuple.tupleExact _) (wpAny_newObj_type (wpAny_bind (wpAny_pure (wpAny_pure ⟨_, rfl, wpAny_pure h⟩))) htake)
    | exact wpAny_bind (wpAny_bind (m := Builtin.Tuple.tupleExact _) (wpAny_newObj_type (wpAny_pure (wpAny_pure ⟨_, rfl, wpAny_pure h⟩)) htake))
    | exact wpAny_bind (wpAny_bind (m := Builtin.Tuple.tupleExact _) (wpAny_newObj_type (wpAny_pure ⟨_, rfl, wpAny_pure h⟩) htake))
end
end HT
namespace L2
open PySem PySem.Spec PyProof.Rows
abbrev TO := St → Hp → (Option Int → Hp → Prop) → Prop
def PO (X : Cx) (e : Option Expr) (t : TO) : Prop :=
  ∀ (pins : List (Addr × Obj)) (s : Shared) (σ : St) (H : Hp) (Q : Option Int → Hp → Prop), Inv X pins σ H s → t σ H Q →
    wpAny (model X.prog X.w) X.A (evalPart e X.env) (fun u s' => ∃ o H', Inv X pins σ H' s' ∧ IsPart u o ∧ Q o H') X.xe s
def tNoPart : TO := fun _ H Q => Q none H
def tPart (t : TE) : TO := fun σ H Q => t σ H fun x H1 => ∃ i, x = .int i ∧ Q (some i) H1
section
variable {X : Cx} {e : Expr} {te : TE} {lo hi : Option Expr} {tl th : TO} {pos p2 : Pos}
theorem po_none : PO X none tNoPart := by
  intro pins s σ H Q I h
  rw [evalPart_none]
  exact wpAny_pure ⟨none, H, I, .none, h⟩
theorem po_some (h : PE X e te) : PO X (some e) (tPart te) := by
  intro pins s σ H Q I hw
  rw [evalPart_some]
  refine thn (h pins s σ H _ I hw) fun u s1 ⟨x, H1, I1, r1, q1⟩ => ?_
  obtain ⟨i, rfl, q⟩ := q1
  obtain ⟨t, rfl⟩ := r1
  exact ⟨some i, H1, I1, .int i t, q⟩
def SlR (X : Cx) (r : V → Option Int → Option Int → Hp → VK → Prop) : Prop :=
  ∀ (pins : List (Addr × Obj)) (s : Shared) (σ : St) (H : Hp) (x : V) (v vl vu : Value) (lo hi : Option Int) (sl : Addr) (Q : VK), Inv X pins σ H s → RelV x v → s.heap.IsSliceOf sl vl vu .none → IsPart vl lo → IsPart vu hi → r x lo hi H Q →
    ∃ T id, typeLookup (.type T) "__getitem__" = pure (some (.builtin id)) ∧ s.TypeIs v T ∧ wpAny (model X.prog X.w) X.A (getItem v (.ref sl)) (EP X pins σ Q) X.xe s
theorem SlR.or {r r' : V → Option Int → Option Int → Hp → VK → Prop} (h : SlR X r) (h' : SlR X r') : SlR X (fun x lo hi H Q => r x lo hi H Q ∨ r' x lo hi H Q) := by
  intro pins s σ H x v vl vu lo hi sl Q I rx hs pl pu q
  rcases q with q | q
  · exact h pins s σ H x v vl vu lo hi sl Q I rx hs pl pu q
  · exact h' pins s σ H x v vl vu lo hi sl Q I rx hs pl pu q
def tSl (r : V → Option Int → Option Int → Hp → VK → Prop) (te : TE) (tl th : TO) : TE := fun σ H Q => te σ H fun x H1 => tl σ H1 fun l H2 => th σ H2 fun u H3 => r x l u H3 Q
theorem pe_slice {r : V → Option Int → Option Int → Hp → VK → Prop} (hr : SlR X r) (he : PE X e te) (hl : PO X lo tl) (hu : PO X hi th) : PE X (.Subscript e (.Slice lo hi none p2) pos) (tSl r te tl th) := by
  intro pins s σ H Q I h
  refine Subscript_ (thn (he pins s σ H _ I h) fun v s1 ⟨x, H1, I1, r1, q1⟩ => ?_)
  refine wpAny_Slice (thn (hl pins s1 σ H1 _ I1 q1) fun vl s2 ⟨l, H2, I2, pl, q2⟩ => thn (hu pins s2 σ H2 _ I2 q2) fun vu s3 ⟨u, H3, I3, pu, q3⟩ => ?_)
  rw [evalPart_none]
  refine wpAny_pure ?_
  have I4 : Inv X pins σ H3 { s3 with heap := s3.heap.push { cls := .type "slice", data := .fields #[vl, vu, .none] } } := I3.kept (t' := s3.toks) fun b ob q => Heap.get?_push_of_some _ q
  obtain ⟨T, id, hT, ht, hg⟩ := hr pins { s3 with heap := s3.heap.push { cls := .type "slice", data := .fields #[vl, vu, .none] } } σ H3 x v vl vu l u s3.heap.objs.size Q I4 r1 (Heap.IsSliceOf.new ..) pl pu q3
  show wpAny (model X.prog X.w) X.A (subscriptTail e (.Slice lo hi none p2) v (.ref s3.heap.objs.size)) (EP X pins σ Q) X.xe { s3 with heap := s3.heap.push { cls := .type "slice", data := .fields #[vl, vu, .none] } }
  exact tail_any (ops := [.ref s3.heap.objs.size, v]) ht hT hg (by with_unfolding_all rfl)
def cutV (xs : List V) (lo hi : Option Int) : List V := (xs.drop (HT.sIx xs.length 0 lo)).take (HT.sIx xs.length xs.length hi - HT.sIx xs.length 0 lo)
theorem cutV_length (xs : List V) (lo hi : Option Int) : (cutV xs lo hi).length ≤ xs.length := by
  unfold cutV
  rw [List.length_take, List.length_drop]
  omega
def rSlT (K : PySem.W.Frag) : V → Option Int → Option Int → Hp → VK → Prop := fun x lo hi H Q => ∃ a xs, x = .ref a ∧ SqT K H a xs ∧
  ¬ (HT.sIx xs.length 0 lo = 0 ∧ HT.sIx xs.length xs.length hi = xs.length) ∧ ∀ p, H p = none → Q (.ref p) (upd H p (.tup (cutV xs lo hi)))
theorem sl_tup : SlR X (rSlT X.K) := by
  intro pins s σ H x v vl vu lo hi sl Q I rx hs pl pu h
  obtain ⟨a, xs, rfl, hx, hw, q⟩ := h
  cases rx
  obtain ⟨its, r, ht, hz⟩ := I.tuple hx
  have hlen : its.toArray.size = xs.length := by rw [List.size_toArray]; exact r.length.symm
  refine ⟨"tuple", _, PyProof.Rows.slot_tuple_getitem.lookup, ht.typeIs, ?_⟩
  refine HT.getItem_tuple_cut ht hs pl pu (by rw [hlen]; exact hw) ?_ (by rw [hlen]; exact hz)
  rw [hlen]
  refine ⟨.ref s.heap.objs.size, _, I.laid (t' := s.toks) (o := .tup (cutV xs lo hi)) (fun b ob q => Heap.get?_push_of_some _ q) (Nat.le_refl _) ?_, rfl, q _ (I.hok.fresh (Nat.le_refl _))⟩
  exact ⟨Nat.le_trans (cutV_length xs lo hi) hz, _, (r.drop (HT.sIx xs.length 0 lo)).take (HT.sIx xs.length xs.length hi - HT.sIx xs.length 0 lo), IsTup.new _ _⟩
def rCatT (K : PySem.W.Frag) : R2 := fun x y H Q => ∃ a b xs ys, x = .ref a ∧ y = .ref b ∧ SqT K H a xs ∧ SqT K H b ys ∧ xs ≠ [] ∧ xs.length + ys.length ≤ sizeLine ∧
  (ys = [] → Q (.ref a) H) ∧ (ys ≠ [] → ∀ p, H p = none → Q (.ref p) (upd H p (.tup (xs ++ ys))))
theorem Vals.nil_iff {xs : List V} {us : List Value} (r : Vals xs us) : us = [] ↔ xs = [] := by
  cases r with
  | nil => simp
  | cons _ _ => simp
theorem op_catT : OpR X (binaryOp .Add) (rCatT X.K) := by
  intro pins s σ H x y v u Q I rx ry h
  obtain ⟨a, b, xs, ys, rfl, rfl, ha, hb, hx, hz, q1, q2⟩ := h
  cases rx
  cases ry
  obtain ⟨its, r1, p1, _⟩ := I.tuple ha
  obtain ⟨its2, r2, p2, _⟩ := I.tuple hb
  refine HT.cat_tup p1 p2 (fun z => hx (r1.nil_iff.mp z)) (fun z => ⟨.ref a, H, I, rfl, q1 (r2.nil_iff.mp z)⟩) (fun z => ?_) (by rw [← r1.length, ← r2.length]; exact hz)
  refine ⟨.ref s.heap.objs.size, _, I.laid (t' := s.toks) (o := .tup (xs ++ ys)) (fun b ob q => Heap.get?_push_of_some _ q) (Nat.le_refl _) ?_, rfl, q2 (fun w => z (r2.nil_iff.mpr w)) _ (I.hok.fresh (Nat.le_refl _))⟩
  exact ⟨by rw [List.length_append]; exact hz, _, r1.append r2, IsTup.new _ _⟩
end
end L2
namespace L2
open PySem PySem.Spec PyProof.Rows
def ixN (n : Nat) (i : Int) : Option Nat := if 0 ≤ i then (if i < n then some i.toNat else none) else if -(n : Int) ≤ i then some (i + n).toNat else none
def atI {α : Type} (xs : List α) (i : Int) : Option α := (ixN xs.length i).bind fun j => xs[j]?
theorem ixN_seq {n : Nat} {i : Int} {j : Nat} (h : ixN n i = some j) : seqIndex? i n = some j ∧ j < n ∧ -(n : Int) ≤ i ∧ i < n := by
  unfold ixN at h
  by_cases h0 : 0 ≤ i
  · rw [if_pos h0] at h
    by_cases h1 : i < n
    · rw [if_pos h1] at h
      have e : i.toNat = j := Option.some.inj h
      exact ⟨by rw [seqIndex_of h0 h1, e], by omega, by omega, h1⟩
    · rw [if_neg h1] at h; cases h
  · rw [if_neg h0] at h
    by_cases h1 : -(n : Int) ≤ i
    · rw [if_pos h1] at h
      have e : (i + n).toNat = j := Option.some.inj h
      exact ⟨by rw [seqIndex_neg (by omega) h1, e], by omega, h1, by omega⟩
    · rw [if_neg h1] at h; cases h
theorem atI_get {α : Type} {xs : List α} {i : Int} {v : α} (h : atI xs i = some v) : ∃ j, seqIndex? i xs.length = some j ∧ xs[j]? = some v ∧ j < xs.length ∧ -(xs.length : Int) ≤ i ∧ i < xs.length := by
  unfold atI at h
  cases e : ixN xs.length i with
  | none => rw [e] at h; cases h
  | some j =>
    rw [e] at h
    obtain ⟨h1, h2, h3, h4⟩ := ixN_seq e
    exact ⟨j, h1, h, h2, h3, h4⟩
def PlainIx (b : Expr) : Prop := ∀ o i, subscripted b false o i = operate [o, i] (getItem o i)
def IxR (X : Cx) (r : R2) : Prop :=
  ∀ (value slice : Expr) (pins : List (Addr × Obj)) (s : Shared) (σ : St) (H : Hp) (x y : V) (v u : Value) (Q : VK), Inv X pins σ H s → RelV x v → RelV y u → r x y H Q →
    subscripted slice false v u = operate [v, u] (getItem v u) → wpAny (model X.prog X.w) X.A (subscriptTail value slice v u) (EP X pins σ Q) X.xe s
def MtR (X : Cx) (id : String) (r : V → List V → Hp → VK → Prop) : Prop :=
  ∀ (pins : List (Addr × Obj)) (s : Shared) (σ : St) (H : Hp) (x : V) (xs : List V) (v : Value) (us : List Value) (Q : VK), Inv X pins σ H s → RelV x v → Vals xs us → r x xs H Q →
    wpAny (model X.prog X.w) X.A (call (.builtin id) (v :: us)) (EP X pins σ Q) X.xe s
section
variable {X : Cx} {a b : Expr} {ta tb : TE} {pos : Pos}
theorem IxR.or {r r' : R2} (h : IxR X r) (h' : IxR X r') : IxR X (fun x y H Q => r x y H Q ∨ r' x y H Q) := by
  intro value slice pins s σ H x y v u Q I rx ry q hs
  rcases q with q | q
  · exact h value slice pins s σ H x y v u Q I rx ry q hs
  · exact h' value slice pins s σ H x y v u Q I rx ry q hs
theorem MtR.or {id : String} {r r' : V → List V → Hp → VK → Prop} (h : MtR X id r) (h' : MtR X id r') : MtR X id (fun x xs H Q => r x xs H Q ∨ r' x xs H Q) := by
  intro pins s σ H x xs v us Q I rx rs q
  rcases q with q | q
  · exact h pins s σ H x xs v us Q I rx rs q
  · exact h' pins s σ H x xs v us Q I rx rs q
theorem pe_ix {r : R2} (hr : IxR X r) (ha : PE X a ta) (hb : PE X b tb) (hs : PlainIx b) : PE X (.Subscript a b pos) (tOp r ta tb) := by
  intro pins s σ H Q I h
  exact Subscript_ (binT ha hb I h fun v u s2 x y H2 I2 rx ry q => hr a b pins s2 σ H2 x y v u Q I2 rx ry q (hs _ _))
def rIxL (K : PySem.W.Frag) : R2 := fun x y H Q => ∃ p xs i v, x = .ref p ∧ y = .int i ∧ SqL K H p xs ∧ atI xs i = some v ∧ Q v H
def rIxT (K : PySem.W.Frag) : R2 := fun x y H Q => ∃ p xs i v, x = .ref p ∧ y = .int i ∧ SqT K H p xs ∧ atI xs i = some v ∧ Q v H
def rIxS : R2 := fun x y H Q => ∃ z i c, x = .str z ∧ y = .int i ∧ z.length ≤ sizeLine ∧ atI z.cps.toList i = some c ∧ Q (.str ⟨#[c]⟩) H
theorem ix_list : IxR X (rIxL X.K) := by
  intro value slice pins s σ H x y v u Q I rx ry h hs
  obtain ⟨p, xs, i, z, rfl, rfl, hq, he, q⟩ := h
  cases rx
  obtain ⟨t, rfl⟩ := ry
  obtain ⟨its, r, pl, hz⟩ := I.list hq
  obtain ⟨j, h1, h2, h3, h4, h5⟩ := atI_get he
  obtain ⟨w, ew, rw'⟩ := r.get h2
  have hl := r.length
  have hn := line63
  have fin : EP X pins σ Q w s := ⟨z, H, I, rw', q⟩
  by_cases h0 : 0 ≤ i
  · have hj : i.toNat = j := by
      rw [seqIndex_of h0 h5] at h1
      exact Option.some.inj h1
    exact item_listR pl.isList h0 (by omega) (by rw [hj]; simpa using ew) fin hs
  · have hj : (i + (its.toArray.size : Int)).toNat = j := by
      rw [seqIndex_neg (by omega) h4] at h1
      rw [List.size_toArray, ← hl]
      exact Option.some.inj h1
    exact subscriptTail_builtinR (x := w) pl.isList.typeIs slot_list_getitem.lookup
      (wpAny_getItem_list_neg (Q := fun r s' => r = w ∧ EP X pins σ Q r s') pl.isList (by omega) (by rw [List.size_toArray] <;> omega) (by omega) (by rw [hj]; simpa using ew) ⟨rfl, fin⟩) hs
theorem ix_tup : IxR X (rIxT X.K) := by
  intro value slice pins s σ H x y v u Q I rx ry h hs
  obtain ⟨p, xs, i, z, rfl, rfl, hq, he, q⟩ := h
  cases rx
  obtain ⟨t, rfl⟩ := ry
  obtain ⟨its, r, pl, hz⟩ := I.tuple hq
  obtain ⟨j, h1, h2, h3, h4, h5⟩ := atI_get he
  obtain ⟨w, ew, rw'⟩ := r.get h2
  have hl := r.length
  have hn := line63
  have fin : EP X pins σ Q w s := ⟨z, H, I, rw', q⟩
  exact subscriptTail_builtinR (x := w) pl.typeIs slot_tuple_getitem.lookup
    (getItem_tuple (j := j) (Q := fun r s' => r = w ∧ EP X pins σ Q r s') pl (by omega) (by omega) (by rw [List.size_toArray, ← hl]; exact h1) (by simpa using ew) ⟨rfl, fin⟩) hs
theorem ix_str : IxR X rIxS := by
  intro value slice pins s σ H x y v u Q I rx ry h hs
  obtain ⟨z, i, c, rfl, rfl, hz, he, q⟩ := h
  obtain ⟨t, rfl⟩ := rx
  obtain ⟨t', rfl⟩ := ry
  obtain ⟨j, h1, h2, h3, h4, h5⟩ := atI_get he
  have hl : z.cps.toList.length = z.length := by simp [Str.length]
  rw [hl] at h1 h4 h5
  have hn := line63
  exact tail_any (typeIs_str s z t) slot_str_getitem.lookup (getItem_str (c := c) (by
    have e1 : decide (i < -(2 ^ 63 : Int)) = false := decide_eq_false (by omega)
    have e2 : decide (i ≥ 2 ^ 63) = false := decide_eq_false (by omega)
    rw [e1, e2, Bool.or_false]) (by rw [h1]; simpa using h2) ⟨.str ⟨#[c]⟩, H, I.tok _, ⟨_, rfl⟩, q⟩) hs
def rIx (K : PySem.W.Frag) : R2 := fun x y H Q => rIxL K x y H Q ∨ rIxT K x y H Q ∨ rIxS x y H Q
theorem ix_seq : IxR X (rIx X.K) := ix_list.or (ix_tup.or ix_str)
theorem mapSeq_set (its : List Value) (n j : Nat) (u : Value) : Obj.mapSeq (·.setIfInBounds j u) { cls := .type "list", data := .seq its.toArray n } = { cls := .type "list", data := .seq (its.set j u).toArray n } := by
  simp [Obj.mapSeq]
theorem Inv.lst {pins : List (Addr × Obj)} {σ : St} {H : Hp} {s : Shared} {p : Addr} {xs : List V} (I : Inv X pins σ H s) (h : H p = some (.lst xs)) :
    ∃ (its : List Value) (n : Nat), Vals xs its ∧ s.heap.get? p = some { cls := .type "list", data := .seq its.toArray n } ∧ xs.length ≤ sizeLine := by
  obtain ⟨z, its, n, r, e⟩ := I.hok p _ h
  exact ⟨its, n, r, e, z⟩
theorem Inv.lstUpd {pins : List (Addr × Obj)} {σ : St} {H : Hp} {s : Shared} {p : Addr} {xs ys : List V} {its its' : List Value} {n n' : Nat} {f : Obj → Obj} (I : Inv X pins σ H s) (h : H p = some (.lst xs))
    (ho : s.heap.get? p = some { cls := .type "list", data := .seq its.toArray n }) (hf : f { cls := .type "list", data := .seq its.toArray n } = { cls := .type "list", data := .seq its'.toArray n' }) (r : Vals ys its') (hz : ys.length ≤ sizeLine) (t : Nat) :
    Inv X pins σ (upd H p (.lst ys)) { s with heap := s.heap.update p f, toks := t } := by
  have e : (s.heap.update p f).get? p = some { cls := .type "list", data := .seq its'.toArray n' } := by
    rw [Heap.get?_update_self f ho (by rw [hf] <;> rfl), hf]
  refine I.write (x := p) (e := p) (by rw [h]; trivial) (.inl rfl) (fun b u hb q => (Heap.get?_update_other _ _ (Ne.symm hb)).trans q) ⟨_, e⟩ ?_
  exact ⟨hz, its', n', r, e⟩
def rSetL : V → V → V → Hp → (Hp → Prop) → Prop := fun o i v H Q => ∃ p xs k j, o = .ref p ∧ i = .int k ∧ H p = some (.lst xs) ∧ ixN xs.length k = some j ∧ Q (upd H p (.lst (xs.set j v)))
theorem set_list : PSet X rSetL := by
  intro pins s σ H o i v ov iv u Q I ro ri rv h
  obtain ⟨p, xs, k, j, rfl, rfl, hp, hj, q⟩ := h
  cases ro
  obtain ⟨t, rfl⟩ := ri
  obtain ⟨its, n, r, ho, hz⟩ := I.lst hp
  obtain ⟨h1, h2, h3, h4⟩ := ixN_seq hj
  have hl := r.length
  have hn := line63
  have I' : Inv X pins σ (upd H p (.lst (xs.set j v))) { s with heap := s.heap.update p (Obj.mapSeq (·.setIfInBounds j u)) } :=
    I.lstUpd hp ho (mapSeq_set its n j u) (r.set rv j) (by rw [List.length_set]; exact hz) s.toks
  by_cases h0 : 0 ≤ k
  · have hk : k.toNat = j := by
      rw [seqIndex_of h0 h4] at h1
      exact Option.some.inj h1
    exact PySem.W.ki_setAt ho h0 (by omega) (by rw [List.size_toArray, ← hl]; exact h4) (by rw [hk]; exact ⟨_, I', q⟩)
  · have hk : (k + (its.toArray.size : Int)).toNat = j := by
      rw [seqIndex_neg (by omega) h3] at h1
      rw [List.size_toArray, ← hl]
      exact Option.some.inj h1
    exact PySem.W.ki_setBack ho (by omega) (by rw [List.size_toArray, ← hl]; exact h3) (by omega) (by rw [hk]; exact ⟨_, I', q⟩)
theorem slice_bounds (lo hi : Option Int) (n : Nat) : (sliceBounds lo hi none n).1 = ((HT.sIx n 0 lo : Nat) : Int) ∧ (sliceBounds lo hi none n).2.1 = ((HT.sIx n n hi : Nat) : Int) ∧ (sliceBounds lo hi none n).2.2 = 1 := by
  refine ⟨?_, ?_, rfl⟩
  · cases lo with
    | none => simp [sliceBounds, HT.sIx]
    | some i =>
      simp only [sliceBounds, HT.sIx, Option.getD_none, show (1 : Int) > 0 by decide, if_true]
      by_cases h : i < 0
      · simp only [h, if_true] <;> omega
      · simp only [h, if_false] <;> omega
  · cases hi with
    | none => simp [sliceBounds, HT.sIx]
    | some i =>
      simp only [sliceBounds, HT.sIx, Option.getD_none, show (1 : Int) > 0 by decide, if_true]
      by_cases h : i < 0
      · simp only [h, if_true] <;> omega
      · simp only [h, if_false] <;> omega
theorem slicePick_cut (its : List Value) (lo hi : Option Int) : slicePick its.toArray lo hi none = ((its.drop (HT.sIx its.length 0 lo)).take (HT.sIx its.length its.length hi - HT.sIx its.length 0 lo)).toArray := by
  obtain ⟨h1, h2, h3⟩ := slice_bounds lo hi its.toArray.size
  unfold slicePick
  rw [h1, h2, h3]
  simp only [sliceRange_one, pick_run, List.size_toArray] <;> rfl
def rSlL (K : PySem.W.Frag) : V → Option Int → Option Int → Hp → VK → Prop := fun x lo hi H Q => ∃ a xs, x = .ref a ∧ SqL K H a xs ∧ ∀ p, H p = none → Q (.ref p) (upd H p (.lst (cutV xs lo hi)))
theorem sl_list : SlR X (rSlL X.K) := by
  intro pins s σ H x v vl vu lo hi sl Q I rx hs pl pu h
  obtain ⟨a, xs, rfl, hx, q⟩ := h
  cases rx
  obtain ⟨its, r, ht, hz⟩ := I.list hx
  have hlen := r.length
  refine ⟨"list", _, slot_list_getitem.lookup, ht.isList.typeIs, ?_⟩
  refine wpAny_getItem_list_slice ht.isList hs pl pu .none (by simp) ?_ (by rw [List.size_toArray] <;> omega)
  rw [slicePick_cut, ← hlen]
  refine ⟨.ref s.heap.objs.size, _, I.laid (t' := s.toks) (o := .lst (cutV xs lo hi)) (fun b ob q => Heap.get?_push_of_some _ q) (Nat.le_refl _) ?_, rfl, q _ (I.hok.fresh (Nat.le_refl _))⟩
  exact ⟨Nat.le_trans (cutV_length xs lo hi) hz, _, 0, (r.drop (HT.sIx xs.length 0 lo)).take (HT.sIx xs.length xs.length hi - HT.sIx xs.length 0 lo), Heap.get?_push_size _ rfl⟩
theorem call_len_seq : CallR X (.builtin "len") (fun xs H Q => ∃ p ys, xs = [.ref p] ∧ (SqL X.K H p ys ∨ SqT X.K H p ys) ∧ Q (.int ys.length) H) := by
  intro pins s σ H xs us Q I r h
  obtain ⟨p, ys, rfl, hq, q⟩ := h
  obtain ⟨u, rfl, rx⟩ := vals1 r
  cases rx
  have hn := line63
  rcases hq with hq | hq
  · obtain ⟨its, r', pl, hz⟩ := I.list hq
    have hlen := r'.length
    exact Calls.call_len_list pl.isList (by simp only [List.size_toArray] <;> omega) ⟨.int ys.length, H, I.tok _, ⟨s.toks + 1, by rw [List.size_toArray, hlen]⟩, q⟩
  · obtain ⟨its, r', pl, hz⟩ := I.tuple hq
    have hlen := r'.length
    exact len_tuple pl (by simp only [List.size_toArray] <;> omega) ⟨.int ys.length, H, I.tok _, ⟨s.toks + 1, by rw [List.size_toArray, hlen]⟩, q⟩
theorem call_len_str : CallR X (.builtin "len") (fun xs H Q => ∃ z, xs = [.str z] ∧ z.length ≤ sizeLine ∧ Q (.int z.length) H) := by
  intro pins s σ H xs us Q I r h
  obtain ⟨z, rfl, hz, q⟩ := h
  obtain ⟨u, rfl, t, rfl⟩ := vals1 r
  have hn := line63
  exact len_str (by omega) ⟨.int z.length, H, I.tok _, ⟨_, rfl⟩, q⟩
theorem CallR.or {f : Value} {r r' : List V → Hp → VK → Prop} (h : CallR X f r) (h' : CallR X f r') : CallR X f (fun xs H Q => r xs H Q ∨ r' xs H Q) := by
  intro pins s σ H xs us Q I rs q
  rcases q with q | q
  · exact h pins s σ H xs us Q I rs q
  · exact h' pins s σ H xs us Q I rs q
theorem call_list_of : CallR X (.type "list") (fun xs H Q => ∃ p ys, xs = [.ref p] ∧ (SqL X.K H p ys ∨ SqT X.K H p ys) ∧ ∀ l, H l = none → Q (.ref l) (upd H l (.lst ys))) := by
  intro pins s σ H xs us Q I r h
  obtain ⟨p, ys, rfl, hq, q⟩ := h
  obtain ⟨u, rfl, rx⟩ := vals1 r
  cases rx
  have fin : ∀ (its : List Value), Vals ys its → ys.length ≤ sizeLine → ∀ (h' : Heap) (c' : Nat), (∀ b o', s.heap.get? b = some o' → h'.get? b = some o') →
      h'.get? s.heap.objs.size = some { cls := .type "list", dict := none, data := .seq its.toArray c', slots := #[] } → EP X pins σ Q (.ref s.heap.objs.size) { s with heap := h' } := fun its r' hz h' c' kp e =>
    ⟨.ref s.heap.objs.size, _, I.laid (t' := s.toks) kp (Nat.le_refl _) (show ObjOk X.prog X.w _ h' _ (.lst ys) from ⟨hz, its, c', r', e⟩), rfl, q _ (I.hok.fresh (Nat.le_refl _))⟩
  rcases hq with hq | hq
  · obtain ⟨its, r', pl, hz⟩ := I.list hq
    have hlen := r'.length
    obtain ⟨o, ho, hc, n, hd⟩ := pl.isList
    exact call_list_seq p (.inl rfl) ho hc hd (fun h' c' kp e => fin its r' hz h' c' kp e) (by simp only [List.size_toArray] <;> omega)
  · obtain ⟨its, r', pl, hz⟩ := I.tuple hq
    have hlen := r'.length
    obtain ⟨o, ho, hc, n, hd⟩ := pl
    exact call_list_seq p (.inr rfl) ho hc hd (fun h' c' kp e => fin its r' hz h' c' kp e) (by simp only [List.size_toArray] <;> omega)
theorem call_tuple_of : CallR X (.type "tuple") (fun xs H Q => ∃ p ys, xs = [.ref p] ∧ ((SqL X.K H p ys ∧ ∀ l, H l = none → Q (.ref l) (upd H l (.tup ys))) ∨ (SqT X.K H p ys ∧ Q (.ref p) H))) := by
  intro pins s σ H xs us Q I r h
  obtain ⟨p, ys, rfl, h⟩ := h
  obtain ⟨u, rfl, rx⟩ := vals1 r
  cases rx
  rcases h with ⟨hq, q⟩ | ⟨hq, q⟩
  · obtain ⟨its, r', pl, hz⟩ := I.list hq
    have hlen := r'.length
    refine call_tuple_list pl.isList (fun h' kp => ?_) (by simp only [List.size_toArray] <;> omega)
    have I1 : Inv X pins σ H { s with heap := h' } := I.kept (t' := s.toks) kp
    have I2 : Inv X pins σ (upd H h'.objs.size (.tup ys)) { s with heap := h'.push { cls := .type "tuple", data := .seq its.toArray } } :=
      I1.laid (t' := s.toks) (fun b o e => Heap.get?_push_of_some _ e) (Nat.le_refl _) (show ObjOk X.prog X.w _ _ _ (.tup ys) from ⟨hz, its, r', IsTup.new _ _⟩)
    exact ⟨.ref h'.objs.size, _, I2, rfl, q _ (I1.hok.fresh (Nat.le_refl _))⟩
  · obtain ⟨its, r', pl, hz⟩ := I.tuple hq
    exact call_tuple_same pl ⟨.ref p, H, I, rfl, q⟩
def tyV (K : PySem.W.Frag) (T : String) (x : V) (H : Hp) : Prop := match x with
  | .str _ => T = "str"
  | .int _ => T = "int"
  | .ref p => (T = "list" ∧ ∃ xs, SqL K H p xs) ∨ (T = "tuple" ∧ ∃ o, K.lookup p = some o ∧ o.cls = .type "tuple" ∧ o.dict = none) ∨
      (T = "dict" ∧ ((∃ kvs, H p = some (.dK kvs)) ∨ ∃ kvs, H p = some (.dT kvs))) ∨ (T = "set" ∧ ∃ S n, H p = some (.set S n))
  | _ => False
theorem tyV_is {pins : List (Addr × Obj)} {σ : St} {H : Hp} {s : Shared} {T : String} {x : V} {v : Value} (I : Inv X pins σ H s) (r : RelV x v) (ty : tyV X.K T x H) :
    s.TypeIs v T ∧ ∀ a, v = .ref a → ∃ ob, s.heap.get? a = some ob ∧ ob.dict = none := by
  cases x with
  | str z =>
    obtain ⟨t, rfl⟩ := r
    cases (show T = "str" from ty)
    exact ⟨typeIs_str s z t, fun _ e => nomatch e⟩
  | int i =>
    obtain ⟨t, rfl⟩ := r
    cases (show T = "int" from ty)
    exact ⟨typeIs_int s i t, fun _ e => nomatch e⟩
  | ref p =>
    cases r
    rcases ty with ⟨rfl, xs, hq⟩ | ⟨rfl, o, hk, hc, hd⟩ | ⟨rfl, hk⟩ | ⟨rfl, S, n, hk⟩
    · obtain ⟨its, _, pl, _⟩ := I.list hq
      refine ⟨pl.isList.typeIs, fun a e => ?_⟩
      cases e
      obtain ⟨o, n, e, c, hd, _⟩ := pl
      exact ⟨o, e, hd⟩
    · refine ⟨⟨o, I.kIn p o hk, hc⟩, fun a e => ?_⟩
      cases e
      exact ⟨o, I.kIn _ o hk, hd⟩
    · have z : ∃ o, s.heap.get? p = some o ∧ o.ExactDict := by
        rcases hk with ⟨kvs, hk⟩ | ⟨kvs, hk⟩
        · obtain ⟨_, _, _, _, o, _, _, e, ex, _⟩ := I.hok p _ hk
          exact ⟨o, e, ex⟩
        · obtain ⟨_, _, _, _, o, _, _, e, ex, _⟩ := I.hok p _ hk
          exact ⟨o, e, ex⟩
      obtain ⟨o, e, ex⟩ := z
      refine ⟨⟨o, e, ex.1⟩, fun a e2 => ?_⟩
      cases e2
      exact ⟨o, e, ex.2.1⟩
    · obtain ⟨o, _, _, _, e, ex, _⟩ := I.hok p _ hk
      refine ⟨⟨o, e, ex.1⟩, fun a e2 => ?_⟩
      cases e2
      exact ⟨o, e, ex.2.1⟩
  | _ => exact False.elim ty
def tBM0 (K : PySem.W.Frag) (T : String) (r : V → List V → Hp → VK → Prop) (to : TE) : TE := fun σ H Q => to σ H fun x H1 => tyV K T x H1 ∧ r x [] H1 Q
def tBM (K : PySem.W.Frag) (T : String) (r : V → List V → Hp → VK → Prop) (to : TE) (t : TA) : TE := fun σ H Q => to σ H fun x H1 => tyV K T x H1 ∧ t σ H1 fun xs H2 => r x xs H2 Q
variable {o e : Expr} {es : List Expr} {to : TE} {t : TA} {name : Str} {apos cpos : Pos} {T id : String} {r : V → List V → Hp → VK → Prop}
theorem pe_bm0 (pa : PlainAttrs T) (slot : Slot T name id) (hty : typeOf (.builtin id) = pure (.type "method_descriptor")) (hm : MtR X id r) (ho : PE X o to)
    (hbase : attributeBase o name X.env (eval o X.env) = eval o X.env := by rfl) (hline : (apos.endLine == cpos.line) = true := by rfl) : PE X (.Call (.Attribute o name apos) [] [] cpos) (tBM0 X.K T r to) := by
  intro pins s σ H Q I h
  refine wpAny_Call_method0_late hbase hline (thn (ho pins s σ H _ I h) fun v s1 ⟨x, H1, I1, r1, ty, q1⟩ => ?_)
  obtain ⟨h1, h2⟩ := tyV_is I1 r1 ty
  exact ⟨T, id, pa, slot, hty, h1, h2, Calls.callWith_builtin rfl (PySem.evalArgs_none (hm pins s1 σ H1 x [] v [] Q I1 r1 .nil q1))⟩
theorem pe_bm (pa : PlainAttrs T) (slot : Slot T name id) (hty : typeOf (.builtin id) = pure (.type "method_descriptor")) (hm : MtR X id r) (ho : PE X o to) (ha : PA X (e :: es) t)
    (hbase : attributeBase o name X.env (eval o X.env) = eval o X.env := by rfl)
    (hfew : ((backTo cpos (starEach (e :: es) X.env)).all (fun x => !x.1) && (backToKw cpos (keywordEach [] X.env)).all (fun x => x.1.isSome)
      && decide ((e :: es).length + ([] : List Keyword).length + (if ([] : List Keyword).isEmpty then 0 else 1) < 30)) = true := by rfl)
    (hline : (apos.endLine == cpos.line) = true := by rfl) (hs : starEach (e :: es) X.env = (false, eval e X.env) :: starEach es X.env := by rfl) (hplain : (backTo cpos (starEach es X.env)).any (·.1) = false := by rfl) :
    PE X (.Call (.Attribute o name apos) (e :: es) [] cpos) (tBM X.K T r to t) := by
  intro pins s σ H Q I h
  refine wpAny_Call_method_late hbase hfew hline rfl (thn (ho pins s σ H _ I h) fun v s1 ⟨x, H1, I1, r1, ty, q1⟩ => ?_)
  obtain ⟨h1, h2⟩ := tyV_is I1 r1 ty
  refine ⟨T, id, pa, slot, hty, h1, h2, ?_⟩
  have hA := ha cpos pins s1 σ H1 _ I1 q1
  rw [hs] at hA ⊢
  refine Calls.callWith_builtin (by show (false || (backTo cpos (starEach es X.env)).any (·.1)) = false; rw [hplain] <;> rfl) (Calls.evalArgs_plain ?_)
  exact thn hA fun us s2 ⟨vs, H2, I2, r2, q2⟩ => hm pins s2 σ H2 x vs v us Q I2 r1 r2 q2
end
end L2
namespace L2
open PySem PySem.Spec PyProof.Rows
def MtM (X : Cx) (id : String) (r : V → List V → Hp → VK → Prop) : Prop :=
  ∀ (pins : List (Addr × Obj)) (s : Shared) (σ : St) (H : Hp) (x : V) (xs : List V) (v : Value) (us : List Value) (Q : VK), Inv X pins σ H s → RelV x v → Vals xs us → r x xs H Q →
    wpAny (model X.prog X.w) X.A (call (.builtin id) (v :: us)) (EP X pins σ Q) X.xe s
theorem Vals.one : ∀ {x : V} {us : List Value}, Vals [x] us → ∃ u, us = [u] ∧ RelV x u
  | _, _, .cons r .nil => ⟨_, rfl, r⟩
theorem Vals.two : ∀ {x y : V} {us : List Value}, Vals [x, y] us → ∃ u v, us = [u, v] ∧ RelV x u ∧ RelV y v
  | _, _, _, .cons r (.cons q .nil) => ⟨_, _, rfl, r, q⟩
theorem Vals.zero : ∀ {us : List Value}, Vals [] us → us = []
  | _, .nil => rfl
theorem Vals.dropLast {xs : List V} {us : List Value} (h : Vals xs us) : Vals xs.dropLast us.dropLast := by
  induction h with
  | nil => exact .nil
  | cons r t ih =>
    cases t with
    | nil => exact .nil
    | cons q t' => exact .cons r ih
theorem Vals.reverse {xs : List V} {us : List Value} (h : Vals xs us) : Vals xs.reverse us.reverse := by
  induction h with
  | nil => exact .nil
  | cons r t ih => rw [List.reverse_cons, List.reverse_cons]; exact Vals.append ih (.cons r .nil)
theorem Vals.rep {xs : List V} {us : List Value} (h : Vals xs us) : ∀ k : Nat, Vals (List.replicate k xs).flatten (List.replicate k us).flatten
  | 0 => .nil
  | k + 1 => by
    rw [List.replicate_succ, List.replicate_succ, List.flatten_cons, List.flatten_cons]
    exact Vals.append h (Vals.rep h k)
theorem foldl_rep (its : List Value) : ∀ (k : Nat) (acc : List Value),
    List.foldl (fun x1 x2 => x1 ++ x2) acc.toArray (List.replicate k its.toArray) = (acc ++ (List.replicate k its).flatten).toArray
  | 0, acc => by simp
  | k + 1, acc => by
    have e : acc.toArray ++ its.toArray = (acc ++ its).toArray := by simp
    have e2 : (acc ++ its) ++ (List.replicate k its).flatten = acc ++ (List.replicate (k + 1) its).flatten := by
      rw [List.replicate_succ, List.flatten_cons, List.append_assoc]
    rw [← e2, ← foldl_rep its k (acc ++ its), ← e, List.replicate_succ, List.foldl_cons]
section
variable {X : Cx} {pins : List (Addr × Obj)} {σ : St} {H : Hp} {s : Shared} {l b : Addr} {xs ys zs : List V}
theorem Inv.lset {its its' : List Value} {n : Nat} {f : Array Value → Array Value} {t' : Nat} (I : Inv X pins σ H s) (hH : H l = some (.lst xs))
    (e : s.heap.get? l = some { cls := .type "list", data := .seq its.toArray n }) (hf : f its.toArray = its'.toArray) (hv : Vals ys its') (hz : ys.length ≤ sizeLine) :
    Inv X pins σ (upd H l (.lst ys)) { s with heap := s.heap.update l (Obj.mapSeq f), toks := t' } := by
  have q := PySem.IsL.update e f
  rw [hf] at q
  refine I.write (x := l) (e := l) (by rw [hH]; exact trivial) (.inl rfl) (fun b' u hb hu => (Heap.get?_update_other s.heap (Obj.mapSeq f) (Ne.symm hb)).trans hu) ⟨_, q⟩ ?_
  exact ⟨hz, its', _, hv, q⟩
theorem Inv.lnew {its : List Value} {t' : Nat} (I : Inv X pins σ H s) (hv : Vals ys its) (hz : ys.length ≤ sizeLine) :
    Inv X pins σ (upd H s.heap.objs.size (.lst ys)) { s with heap := s.heap.push { cls := .type "list", data := .seq its.toArray }, toks := t' } :=
  I.laid (fun _ _ q => Heap.get?_push_of_some _ q) (Nat.le_refl _) ⟨hz, its, 0, hv, Heap.get?_push_size _ rfl⟩
theorem Inv.fresh (I : Inv X pins σ H s) : H s.heap.objs.size = none := I.hok.fresh (Nat.le_refl _)
theorem Inv.lstM (I : Inv X pins σ H s) (hH : H l = some (.lst xs)) : xs.length ≤ sizeLine ∧ ∃ (its : List Value) (n : Nat), Vals xs its ∧ xs.length = its.length ∧ s.heap.get? l = some { cls := .type "list", data := .seq its.toArray n } := by
  obtain ⟨z, its, n, r, e⟩ := I.hok l _ hH
  exact ⟨z, its, n, r, r.length, e⟩
theorem notLongL {n : Nat} (h : n ≤ sizeLine) : Builtin.List.listTooLong n = false := by
  unfold Builtin.List.listTooLong
  exact decide_eq_false (by omega)
end
section
variable {X : Cx}
def rAppend : V → List V → Hp → VK → Prop := fun x vs H Q => ∃ l xs y, x = .ref l ∧ vs = [y] ∧ H l = some (.lst xs) ∧ xs.length < sizeLine ∧ Q .non (upd H l (.lst (xs ++ [y])))
theorem mt_append : MtM X "list.append" rAppend := by
  intro pins s σ H x vs v us Q I rx rv h
  obtain ⟨l, xs, y, rfl, rfl, hH, hz, q⟩ := h
  cases rx
  obtain ⟨u, rfl, ru⟩ := rv.one
  obtain ⟨z, its, n, r, hl, e⟩ := I.lstM hH
  refine call_meets F.slot_list_append ⟨_, e, rfl⟩ F.entry_list_append (F.args_list_append_2 _ _) (PySem.list_append l its.toArray n u (by rw [List.size_toArray]; omega)) ⟨e, ?_⟩
  refine ⟨.non, _, I.lset (its' := its ++ [u]) hH e (by simp) (r.append (.cons ru .nil)) ?_, rfl, q⟩
  rw [List.length_append, List.length_singleton]
  omega
def rExtend : V → List V → Hp → VK → Prop := fun x vs H Q => ∃ l b xs zs, x = .ref l ∧ vs = [.ref b] ∧ H l = some (.lst xs) ∧ H b = some (.lst zs) ∧ xs.length + zs.length ≤ sizeLine ∧ Q .non (upd H l (.lst (xs ++ zs)))
theorem mt_extend : MtM X "list.extend" rExtend := by
  intro pins s σ H x vs v us Q I rx rv h
  obtain ⟨l, b, xs, zs, rfl, rfl, hH, hB, hz, q⟩ := h
  cases rx
  obtain ⟨u, rfl, ru⟩ := rv.one
  cases ru
  obtain ⟨z, its, n, r, hl, e⟩ := I.lstM hH
  obtain ⟨z2, its2, n2, r2, hl2, e2⟩ := I.lstM hB
  have hsz : its.toArray.size + its2.toArray.size ≤ sizeLine := by rw [List.size_toArray, List.size_toArray]; omega
  have hlong : ¬ (!its.toArray.isEmpty && Builtin.List.listTooLong (its.toArray.size + its2.toArray.size)) = true := by
    rw [notLongL hsz, Bool.and_false]
    exact Bool.false_ne_true
  refine call_meets F.slot_list_extend ⟨_, e, rfl⟩ F.entry_list_extend (F.args_list_extend_2 _ _)
    (AutoSeq1.list_extend_list_list_0 l its.toArray n b its2.toArray n2 hlong (by rw [List.size_toArray]; omega) (by omega)) ⟨e, e2, ?_⟩
  refine ⟨.non, _, I.lset (its' := its ++ its2) hH e (by simp) (r.append r2) ?_, rfl, q⟩
  rw [List.length_append]
  omega
def rReverse : V → List V → Hp → VK → Prop := fun x vs H Q => ∃ l xs, x = .ref l ∧ vs = [] ∧ H l = some (.lst xs) ∧ Q .non (upd H l (.lst xs.reverse))
theorem mt_reverse : MtM X "list.reverse" rReverse := by
  intro pins s σ H x vs v us Q I rx rv h
  obtain ⟨l, xs, rfl, rfl, hH, q⟩ := h
  cases rx
  have hus := rv.zero
  subst hus
  obtain ⟨z, its, n, r, hl, e⟩ := I.lstM hH
  refine call_meets F.slot_list_reverse ⟨_, e, rfl⟩ F.entry_list_reverse (F.args_list_reverse_1 _) (AutoSeq1.list_reverse_list_0 l its.toArray n (by rw [List.size_toArray]; omega)) ⟨e, ?_⟩
  refine ⟨.non, _, I.lset (its' := its.reverse) hH e (by simp) r.reverse ?_, rfl, q⟩
  rw [List.length_reverse]
  omega
def rClear : V → List V → Hp → VK → Prop := fun x vs H Q => ∃ l xs, x = .ref l ∧ vs = [] ∧ H l = some (.lst xs) ∧ Q .non (upd H l (.lst []))
theorem mt_clear : MtM X "list.clear" rClear := by
  intro pins s σ H x vs v us Q I rx rv h
  obtain ⟨l, xs, rfl, rfl, hH, q⟩ := h
  cases rx
  have hus := rv.zero
  subst hus
  obtain ⟨z, its, n, r, hl, e⟩ := I.lstM hH
  refine call_meets F.slot_list_clear ⟨_, e, rfl⟩ F.entry_list_clear (F.args_list_clear_1 _) (AutoSeq1.list_clear_list_0 l its.toArray n (by rw [List.size_toArray]; omega)) ⟨e, ?_⟩
  exact ⟨.non, _, I.lset (its' := []) (ys := []) hH e rfl .nil (Nat.zero_le _), rfl, q⟩
def rCat : R2 := fun x y H Q => ∃ l b xs zs, x = .ref l ∧ y = .ref b ∧ H l = some (.lst xs) ∧ H b = some (.lst zs) ∧ xs.length + zs.length ≤ sizeLine ∧ ∀ p, H p = none → Q (.ref p) (upd H p (.lst (xs ++ zs)))
theorem op_cat : OpR X (binaryOp .Add) rCat := by
  intro pins s σ H x y v u Q I rx ry h
  obtain ⟨l, b, xs, zs, rfl, rfl, hH, hB, hz, q⟩ := h
  cases rx
  cases ry
  obtain ⟨z, its, n, r, hl, e⟩ := I.lstM hH
  obtain ⟨z2, its2, n2, r2, hl2, e2⟩ := I.lstM hB
  refine PySem.P.add_list e e2 ?_ (by rw [List.size_toArray, List.size_toArray]; omega)
  have ea : its.toArray ++ its2.toArray = (its ++ its2).toArray := by simp
  rw [ea]
  exact ⟨.ref _, _, I.lnew (t' := s.toks) (r.append r2) (by rw [List.length_append]; omega), rfl, q _ I.fresh⟩
theorem len_rep {α : Type} (xs : List α) (k : Nat) : (List.replicate k xs).flatten.length = k * xs.length := by
  induction k with
  | zero => simp
  | succ k ih => rw [List.replicate_succ, List.flatten_cons, List.length_append, ih, Nat.succ_mul, Nat.add_comm]
end
section
variable {prog : Program} {w : World} {A : Around} {E : Value → Shared → Prop} {s : Shared}
end
section
variable {X : Cx}
end
end L2
namespace Att
open PySem PySem.W PySem.Calls PyProof.Rows
theorem ints_of_wellAll {P : Params} {h : Heap} : ∀ (ns : List Int) (vs : List Value), WellAll P h vs (ns.map WData.int) → IntsAre vs ns := by
  intro ns
  induction ns with
  | nil =>
    intro vs w
    rw [List.map_nil] at w
    cases w
    exact .nil
  | cons n ns ih =>
    intro vs w
    rw [List.map_cons] at w
    cases w with
    | cons a b =>
      cases a
      exact .cons _ _ (ih _ b)
theorem script_of {l : OpenLaw} {n : Nat} (hn : l.most = some n) {P : Params} {h : Heap} {args : List WData} {vals : List Value}
    (hpre : l.row.toRowW.claim.pre args = true) (hwl : WellAll P h vals args) :
    ∃ a vs ns, vals = [Value.ref a] ∧ args = [WData.list (ns.map WData.int)] ∧ h.get? a = some { cls := .type "list", data := .seq vs.toArray } ∧ IntsAre vs ns ∧ ns.length ≤ n := by
  have hsh : WShape.hasAll [] args [.list .int] = true := (pre_splitW hpre).1
  have hc : l.pre.holds [] { args := args } = true := (pre_splitW hpre).2
  obtain ⟨d, r, rfl, h1, h2⟩ := hasAllW_cons hsh
  obtain rfl := hasAllW_nil h2
  obtain ⟨xs, rfl, h3⟩ := hasW_list h1
  obtain ⟨ns, rfl⟩ := items_int h3
  have hlen : ns.length ≤ n := by
    unfold OpenLaw.pre at hc
    have h4 : (WTm.not (.lt (.lit (.int (n : Int))) (.len (.arg 0)))).holds [] { args := [.list (ns.map .int)] } = true := by
      have h4 := (holds_andW hc).1
      rw [hn] at h4
      exact h4
    have h5 := condW_of h4 (w_not (w_lt w_lit (w_len_list (w_arg rfl))))
    rw [List.length_map] at h5
    refine Nat.le_of_not_lt fun q => ?_
    have q' : (n : Int) < ((ns.length : Nat) : Int) := by omega
    first
      | (rw [decide_eq_true q'] at h5; exact absurd h5 (by decide))
      | (simp at h5; omega)
  cases hwl with
  | cons w1 w2 =>
    cases w2
    cases w1 with
    | list ho hall => exact ⟨_, _, ns, rfl, rfl, ho, ints_of_wellAll ns _ hall, hlen⟩
theorem post_true (l : OpenLaw) (args : List WData) : l.row.toRowW.claim.post args (.bool true) args = true :=
  postW_of (r := l.row.toRowW) (X := (true == true))
    (show WShape.has [] (.bool true) .bool = true by first | rfl | decide | simp [WShape.has, WShape.arms, WShape.armsAll])
    (show (WTm.eq .res (.lit (.bool true))).value [] { args := args, res := some (.bool true), after := args } = some (.bool (true == true)) from w_eq_bool (w_res rfl) w_lit) rfl
theorem attach_call {l : OpenLaw} {n : Nat} {q : Program} {loose : List Str} {XP : (Str → Option Value) → Heap → Prop} {YP : World → Heap → Prop} {d : DefRec}
    (hn : l.most = some n) (hdf : d.params.defaults = [])
    (call : ∀ (w : World) (s₀ s₁ : Shared) (mg mb : Str → Option Value) (fa : Addr) (o : Obj) (pm cd doc : Value) (a : Addr) (vs : List Value) (ns : List Int),
      Ground q loose [] XP w s₀ mg mb s₁.heap → YP w s₁.heap →
      s₁.heap.get? fa = some o → o.data = .func (docDef d.name d.params d.body d.scope pm cd doc) → s₁.heap.CodeRec cd d.name → mg d.name = some (.ref fa) →
      s₁.heap.get? a = some { cls := .type "list", data := .seq vs.toArray } → IntsAre vs ns → ns.length ≤ n → s₁.gens = #[] →
      codeAny (model l.prog w) callerA (.call (.ref fa) ⟨[.ref a], []⟩) (fun r s' => r = .ok (.ret (.bool true)) ∧ OldK s₁.heap s'.heap ∧ s'.os = s₁.os ∧ AllBare s'.gens) s₁) :
    WalkO q loose XP YP l.row.toRowW d [] (fun f vs => PySem.call f vs) := by
  intro w s₀ s₁ mg mb G Y fa o pm cd doc dV kV ho hd hcd hD hmg hg args vals as hpre hlay hrd hwl hlo
  obtain rfl : dV = .none := Dflts.none hD hdf
  obtain rfl : kV = .none := Dflts.noKw hD
  obtain ⟨a, vs, ns, rfl, rfl, hobj, hints, hlen⟩ := script_of hn hpre hwl
  refine enter_call (codeAny_mono (call w s₀ s₁ mg mb fa o pm cd doc a vs ns G Y ho (fd_plain hd) hcd hmg hobj hints hlen hg) fun r s' hq => ?_)
  obtain ⟨rfl, h2, h3, h4⟩ := hq
  exact ⟨.inl ⟨.bool true, .bool true, [], rfl, fun _ => rfl, .bool true, post_true l _, fun _ => ⟨List.Pairwise.nil, fun _ hm => (nomatch hm)⟩⟩, h2, h3, h4⟩
section
variable {prog : Program} {w : World} {A : Around} {E : Value → Shared → Prop} {s : Shared} {K : Frag}
end
end Att
namespace L2
open PySem PySem.Spec PyProof.Rows
theorem vals_ints : ∀ {vs : List Value} {ns : List Int}, IntsAre vs ns → Vals (ns.map V.int) vs
  | _, _, .nil => .nil
  | _, _, .cons n t h => .cons ⟨t, rfl⟩ (vals_ints h)
def Only (H : Hp) : Prop := ∀ b, H b = none ∨ ∃ o xs, H b = some (.frz o (.lst xs))
theorem law_call {P : Program} {w : World} {K : PySem.W.Frag} {mg mb : Str → Option Value} {CX : CXT} {k : Nat} {fa a : Addr} {fd : FuncData} {x : Str} {sp : Sp} {s₁ : Shared} {vs : List Value} {ns : List Int}
    (KX : K.In s₁.heap) (hns : s₁.heap.Ns mainGlobals mg) (hb : s₁.heap.Ns builtinsNs mb) (hbb : ∀ x : Str, x ≠ "__name__" → mb x = bootBuiltins x) (hlim : s₁.heap.NoLimit) (hg : s₁.gens = #[])
    (ha : s₁.heap.get? a = some { cls := .type "list", data := .seq vs.toArray }) (hi : IntsAre vs ns) (hl : ns.length ≤ sizeLine) (hr : Room k callerA)
    (F : ∀ base : Heap, K.In base → base.Ns mainGlobals mg → FnOk P w K mg base CX k fa fd [x] sp) (hbind : ∀ (s : Shared) (u : Value), BindsTo s fd ⟨[u], []⟩ [(x, u)])
    (hsp : ∀ H : Hp, Only H → SqL K H a (ns.map V.int) → sp [.ref a] H (fun v _ => v = .bl true) fun _ _ _ => False)
    (hCX : ∀ H e s', CX [] H s₁ (fun _ _ _ => False) e s' → False) :
    codeAny (model P w) callerA (.call (.ref fa) ⟨[.ref a], []⟩) (fun r s' => r = .ok (.ret (.bool true)) ∧ OldK s₁.heap s'.heap ∧ s'.os = s₁.os ∧ AllBare s'.gens) s₁ := by
  have rv := vals_ints hi
  have lenV := hi.length
  have core : ∀ H : Hp, Only H → SqL K H a (ns.map V.int) → HOk P w H s₁.heap → (∀ b, H b ≠ none → b = a) → (H a ≠ none → K.lookup a = none) →
      codeAny (model P w) callerA (.call (.ref fa) ⟨[.ref a], []⟩) (fun r s' => r = .ok (.ret (.bool true)) ∧ OldK s₁.heap s'.heap ∧ s'.os = s₁.os ∧ AllBare s'.gens) s₁ := by
    intro H hO hS hok hA hK
    have base_of : ∀ {b : Addr} {o : Obj}, s₁.heap.get? b = some o → H b = none → (hidT s₁.heap H).get? b = some o := fun e n => hidT_get e n
    have noA : ∀ {b : Addr} {o : Obj} {es : Array DictEntry} {ep : Nat}, s₁.heap.get? b = some o → o.data = .dict es ep → H b = none := fun {b o es ep} e d => by
      cases q : H b with
      | none => rfl
      | some u =>
        have e' : b = a := hA b (by rw [q]; simp)
        subst e'
        rw [ha] at e; cases e
        have d' : Data.seq vs.toArray _ = Data.dict es ep := d
        cases d'
    have nsK : ∀ {b : Addr} {m : Str → Option Value}, s₁.heap.Ns b m → (hidT s₁.heap H).Ns b m := fun {b m} ⟨o, es, ep, e, d, r⟩ => ⟨o, es, ep, base_of e (noA e d), d, r⟩
    have hKb : K.In (hidT s₁.heap H) := fun b o e => base_of (KX b o e) (by
      cases q : H b with
      | none => rfl
      | some u =>
        have e' : b = a := hA b (by rw [q]; simp)
        subst e'
        rw [hK (by rw [q]; simp)] at e; cases e)
    have hM : Mod K mg (hidT s₁.heap H) := ⟨hKb, nsK hns, ⟨mb, nsK hb, hbb⟩, let ⟨mc, h1, h2⟩ := hlim; ⟨mc, nsK h1, h2⟩⟩
    have e0 : Env0 P w K mg (hidT s₁.heap H) callerA [] s₁ H := ⟨rfl, hM, fun b o e => of_hidT e, Nat.le_of_eq (hidT_size _ _), trivial, fun b hb => absurd (show b ∈ ([] : List Addr) from hb) (by simp), hok, .of_eq hg⟩
    refine codeAny_mono ((F _ hKb (nsK hns)).run callerA [] s₁ H ⟨[.ref a], []⟩ [.ref a] [.ref a] _ _ hr e0 (hbind s₁ (.ref a)) (.cons rfl .nil) (hsp H hO hS)) fun r s' h => ?_
    cases r with
    | error e => exact (hCX H e s' h).elim
    | ok fl =>
      cases fl with
      | next => exact False.elim h
      | brk => exact False.elim h
      | cont => exact False.elim h
      | ret u =>
        obtain ⟨v, H', os, bare, un, hok', r', q⟩ := h
        have q' : v = .bl true := q
        subst q'
        obtain rfl : u = Value.bool true := r'
        refine ⟨rfl, OldK.of_keep fun b o e => ?_, os, bare⟩
        cases q : H b with
        | none => exact un.keep b o e q (by intro z; exact absurd (show b ∈ ([] : List Addr) from z) (by simp)) (by simp)
        | some u =>
          rcases hO b with z | ⟨ob, xs, z⟩
          · rw [q] at z; cases z
          · have z2 := un.frzs b ob _ z
            obtain ⟨e1, _⟩ := hok b _ z
            obtain ⟨e2, _⟩ := hok' b _ z2
            rw [e] at e1; cases e1
            exact e2
  cases hk : K.lookup a with
  | some o =>
    have e := KX a o hk
    rw [ha] at e
    cases e
    refine core (fun _ => none) (fun _ => .inl rfl) (.inr ⟨_, vs.toArray, _, hk, rfl, rfl, rfl, by rw [List.size_toArray, lenV]; exact hl, by simpa using rv⟩) (fun b u z => by have z' : (none : Option HO) = some u := z; cases z') (fun b z => absurd rfl z) fun z => absurd rfl z
  | none =>
    refine core (fun b => if b = a then some (.frz { cls := .type "list", data := .seq vs.toArray } (.lst (ns.map V.int))) else none) (fun b => ?_) (.inl (.inr ⟨{ cls := .type "list", data := .seq vs.toArray }, if_pos rfl⟩)) (fun b u z => ?_) (fun b z => ?_) fun _ => hk
    · by_cases hb : b = a
      · exact .inr ⟨_, _, if_pos hb⟩
      · exact .inl (if_neg hb)
    · by_cases hb : b = a
      · have z' := (if_pos hb).symm.trans z
        cases z'
        subst hb
        exact ⟨ha, by rw [List.length_map]; exact hl, vs, _, rv, ha⟩
      · have z' := (if_neg hb).symm.trans z
        cases z'
    · by_cases hb : b = a
      · exact hb
      · exact absurd (if_neg hb) z
end L2
namespace L2
open PySem PySem.Spec PyProof.Rows
theorem walk_of {l : PySem.W.OpenLaw} {n k : Nat} {q : Program} {loose : List Str} {XP : (Str → Option Value) → Heap → Prop} {YP : World → Heap → Prop} {d : DefRec} {K : Params → PySem.W.Frag} {CX : World → CXT} {sp : World → Sp} {x : Str}
    (hn : l.most = some n) (hn2 : n ≤ sizeLine) (hdf : d.params.defaults = []) (hr : Room k callerA)
    (hY : ∀ (w : World) (h : Heap), YP w h → (K w.params).In h)
    (F : ∀ (w : World) (mg : Str → Option Value) (fa : Addr) (h : Heap), (K w.params).In h → h.Ns mainGlobals mg → mg d.name = some (.ref fa) →
      ∃ fd : FuncData, (∀ (s : Shared) (u : Value), BindsTo s fd ⟨[u], []⟩ [(x, u)]) ∧
        ∀ base : Heap, (K w.params).In base → base.Ns mainGlobals mg → FnOk l.prog w (K w.params) mg base (CX w) k fa fd [x] (sp w))
    (hsp : ∀ (w : World) (H : Hp) (a : Addr) (ns : List Int), ns.length ≤ n → Only H → SqL (K w.params) H a (ns.map V.int) → sp w [.ref a] H (fun v _ => v = .bl true) fun _ _ _ => False)
    (hCX : ∀ (w : World) (H : Hp) (s : Shared) (e : Value) (s' : Shared), CX w [] H s (fun _ _ _ => False) e s' → False) :
    PySem.W.WalkO q loose XP YP l.row.toRowW d [] (fun f vs => PySem.call f vs) := by
  refine Att.attach_call hn hdf fun w s₀ s₁ mg mb fa o pm cd doc a vs ns G Y ho hd hcd hmg hobj hints hlen hg => ?_
  have KX := hY w _ Y
  obtain ⟨fd, hb, hF⟩ := F w mg fa _ KX G.T.g hmg
  exact law_call KX G.T.g G.T.b G.T.builtins G.T.nolimit hg hobj hints (Nat.le_trans hlen hn2) hr hF hb (fun H hO hS => hsp w H a ns hlen hO hS) fun H e s' => hCX w H s₁ e s'
end L2
namespace L2
open PySem PySem.Spec PyProof.Rows
def defArgs (s : Stmt) : Arguments := match s with
  | .FunctionDef _ a _ _ _ _ _ _ _ _ => a
  | _ => { posonlyargs := [], args := [], vararg := none, kwonlyargs := [], kw_defaults := [], kwarg := none, defaults := [] }
def defBody (s : Stmt) : List Stmt := match s with
  | .FunctionDef _ _ b _ _ _ _ _ _ _ => b
  | _ => []
def defScope (s : Stmt) : Scope := match s with
  | .FunctionDef _ _ _ _ _ _ sc _ _ _ => sc
  | _ => { kind := .function, names := [], isGenerator := false, isCoroutine := false }
abbrev CX0 : CXT := fun _ _ _ _ _ _ => False
abbrev E0 : XK := fun _ _ _ => False
theorem pass0 {X : Cx} : Passes CX0 X E0 := fun _ _ _ _ _ _ _ h => h.elim
structure Fun (K : PySem.W.Frag) (x qual : Str) (st : Stmt) (f : Addr) (fd : FuncData) : Prop where
  ex : ∃ (oc : Value) (od : Option Addr) (kV doc pm : Value) (an : Option Addr) (cdv ct : Value) (osl : Array (Option Value)),
    fd = PySem.W.fnOf x qual (defArgs st) (defBody st) (defScope st) .none kV doc pm an cdv ct ∧ K.lookup f = some ⟨oc, od, .func fd, osl⟩ ∧ PySem.W.codeIn K cdv qual = true
  kp : PySem.W.keepIn K (.ref f) = true
section
variable {P : Program} {w : World} {K : PySem.W.Frag} {mg : Str → Option Value} {base : Heap}
theorem Fun.ok {x qual : Str} {st : Stmt} {f : Addr} {fd : FuncData} {N ps : List Str} {k : Nat} {sp : Sp} (F : Fun K x qual st f fd) (S : FnScope N ps (defScope st)) (len : ∀ vs H Q E, sp vs H Q E → vs.length = ps.length)
    (hbody : ∀ (cdv : Value) (A : Around) (outer : List Env) (s : Shared) (H : Hp) (vs : List V) (Q : VK) (E : XK), Room k (A.deeper (envOfC qual (defScope st) s.heap.objs.size f cdv)) → sp vs H Q E →
      ∃ t, PSs (cxOf CX0 P w K mg base N qual (defScope st) f cdv A outer s H E).nox (defBody st) t ∧ t { nx := fun _ H' => Q .non H', rt := Q } (start N vs) H) : FnOk P w K mg base CX0 (k + 1) f fd ps sp := by
  obtain ⟨oc, od, kV, doc, pm, an, cdv, ct, osl, rfl, lk, hcd⟩ := F.ex
  refine fn_of lk hcd S len fun A outer s H vs Q E hr hsp => ?_
  obtain ⟨t, h, q⟩ := hbody cdv A outer s H vs Q E hr hsp
  exact ⟨t, h.nox, q⟩
theorem Fun.binds {x qual : Str} {st : Stmt} {f : Addr} {fd : FuncData} {ps : List Str} (F : Fun K x qual st f fd)
    (h : ∀ (kV doc pm : Value) (an : Option Addr) (cdv ct : Value) (us : List Value), us.length = ps.length → bindArgs (PySem.W.fnOf x qual (defArgs st) (defBody st) (defScope st) .none kV doc pm an cdv ct) ⟨us, []⟩ = pure (ps.zip us)) : Binds K fd ps [] := by
  obtain ⟨oc, od, kV, doc, pm, an, cdv, ct, osl, rfl, lk, hcd⟩ := F.ex
  exact .all (h kV doc pm an cdv ct)
theorem fun_mk {x qual : Str} {st : Stmt} {f : Addr} {oc : Value} {od an : Option Addr} {osl : Array (Option Value)} {kV doc pm cdv ct : Value} (l : K.lookup f = some ⟨oc, od, .func (PySem.W.fnOf x qual (defArgs st) (defBody st) (defScope st) .none kV doc pm an cdv ct), osl⟩)
    (c : PySem.W.codeIn K cdv qual = true) (k : PySem.W.keepIn K (.ref f) = true) : Fun K x qual st f (PySem.W.fnOf x qual (defArgs st) (defBody st) (defScope st) .none kV doc pm an cdv ct) := ⟨⟨oc, od, kV, doc, pm, an, cdv, ct, osl, rfl, l, c⟩, k⟩
end
section
variable {X : Cx}
end
theorem iteF {A B : Prop} (h : B) : if false = true then A else B := by
  rw [if_neg Bool.false_ne_true]
  exact h
theorem iteT {A B : Prop} (h : A) : if true = true then A else B := by
  rw [if_pos rfl]
  exact h
def Same (H H' : Hp) : Prop := ∀ b o, H b = some o → H' b = some o
theorem Same.refl (H : Hp) : Same H H := fun _ _ h => h
theorem Same.trans {H H1 H2 : Hp} (a : Same H H1) (b : Same H1 H2) : Same H H2 := fun c o h => b c o (a c o h)
theorem Same.free {H H' : Hp} (e : Same H H') {l : Addr} (h : H' l = Option.none) : H l = Option.none := by
  cases q : H l with
  | none => rfl
  | some o =>
    rw [e l o q] at h
    cases h
theorem Same.seq {K : PySem.W.Frag} {H H' : Hp} {a : Addr} {xs : List V} (e : Same H H') (h : SqL K H a xs) : SqL K H' a xs := by
  rcases h with (h | ⟨o, h⟩) | h
  · exact .inl (.inl (e _ _ h))
  · exact .inl (.inr ⟨o, e _ _ h⟩)
  · exact .inr h
end L2
namespace L2
open PySem PySem.Spec PyProof.Rows
section
variable {κ : Type} [DecidableEq κ]
def valV (kvs : List (κ × V)) (k : κ) : Option V := (kvs.find? fun kv => decide (kv.1 = k)).map (·.2)
def putK (kvs : List (κ × V)) (k : κ) (v : V) : List (κ × V) :=
  if (kvs.any fun kv => decide (kv.1 = k)) = true then kvs.map (fun kv => if kv.1 = k then (kv.1, v) else kv) else kvs ++ [(k, v)]
def dropK (kvs : List (κ × V)) (k : κ) : List (κ × V) := kvs.filter fun kv => decide (kv.1 ≠ k)
theorem valV_pos {p : κ × V} {r : List (κ × V)} {k : κ} (e : p.1 = k) : valV (p :: r) k = some p.2 := by simp [valV, List.find?_cons, e]
theorem valV_neg {p : κ × V} {r : List (κ × V)} {k : κ} (e : ¬ p.1 = k) : valV (p :: r) k = valV r k := by simp [valV, List.find?_cons, e]
theorem valV_any (k : κ) : ∀ kvs : List (κ × V), (kvs.any fun kv => decide (kv.1 = k)) = (valV kvs k).isSome
  | [] => rfl
  | p :: r => by
    rw [List.any_cons]
    by_cases e : p.1 = k
    · simp only [valV_pos e, decide_eq_true e, Bool.true_or, Option.isSome_some]
    · rw [valV_neg e, decide_eq_false e, Bool.false_or]; exact valV_any k r
theorem length_putK (kvs : List (κ × V)) (k : κ) (v : V) : (putK kvs k v).length ≤ kvs.length + 1 := by
  unfold putK
  split
  · rw [List.length_map]; omega
  · rw [List.length_append, List.length_cons, List.length_nil]; omega
theorem RelO.isSome_eq {o : Option V} {u : Option Value} (r : RelO o u) : o.isSome = u.isSome := by
  cases o with
  | none => cases u with
    | none => rfl
    | some _ => exact (show False from r).elim
  | some _ => cases u with
    | none => exact (show False from r).elim
    | some _ => rfl
theorem RelO.getD {o : Option V} {u : Option Value} {d : V} {d' : Value} (r : RelO o u) (rd : RelV d d') : RelV (o.getD d) (u.getD d') := by
  cases o with
  | none => cases u with
    | none => exact rd
    | some _ => exact (show False from r).elim
  | some _ => cases u with
    | none => exact (show False from r).elim
    | some _ => exact r
theorem KV.val {kvs : List (κ × V)} {vs : List (κ × Value)} (r : KV kvs vs) (k : κ) : RelO (valV kvs k) (valueAt vs k) := by
  unfold KV at r
  induction r with
  | nil => exact True.intro
  | @cons p q ps qs h t ih =>
    obtain ⟨h1, h2⟩ := h
    by_cases e : p.1 = k
    · have e' : q.1 = k := h1.symm.trans e
      have b : valueAt (q :: qs) k = some q.2 := by simp [valueAt, List.find?_cons, e']
      rw [valV_pos e, b]; exact h2
    · have e' : ¬ q.1 = k := fun z => e (h1.trans z)
      have b : valueAt (q :: qs) k = valueAt qs k := by simp [valueAt, List.find?_cons, e']
      rw [valV_neg e, b]; exact ih
theorem KV.any {kvs : List (κ × V)} {vs : List (κ × Value)} (r : KV kvs vs) (k : κ) : (kvs.any fun kv => decide (kv.1 = k)) = vs.any fun kv => decide (kv.1 = k) := by
  unfold KV at r
  induction r with
  | nil => rfl
  | cons h t ih => rw [List.any_cons, List.any_cons, ih, h.1]
theorem KV.repl {kvs : List (κ × V)} {vs : List (κ × Value)} (r : KV kvs vs) (k : κ) {y : V} {u : Value} (ry : RelV y u) :
    KV (kvs.map fun kv => if kv.1 = k then (kv.1, y) else kv) (vs.map fun kv => if kv.1 = k then (kv.1, u) else kv) := by
  unfold KV at r ⊢
  induction r with
  | nil => exact .nil
  | @cons p q ps qs h t ih =>
    rw [List.map_cons, List.map_cons]
    refine .cons ?_ ih
    obtain ⟨h1, h2⟩ := h
    by_cases e : p.1 = k
    · rw [if_pos e, if_pos (h1.symm.trans e)]; exact ⟨h1, ry⟩
    · rw [if_neg e, if_neg (fun z => e (h1.trans z))]; exact ⟨h1, h2⟩
theorem KV.put {kvs : List (κ × V)} {vs : List (κ × Value)} (r : KV kvs vs) (k : κ) {y : V} {u : Value} (ry : RelV y u) : KV (putK kvs k y) (stored vs k u) := by
  unfold putK stored
  rw [r.any k]
  by_cases e : (vs.any fun kv => decide (kv.1 = k)) = true
  · rw [if_pos e, if_pos e]; exact r.repl k ry
  · rw [if_neg e, if_neg e]; exact Paired.snoc r ⟨rfl, ry⟩
theorem KV.drop {kvs : List (κ × V)} {vs : List (κ × Value)} (r : KV kvs vs) (k : κ) : KV (dropK kvs k) (without vs k) := by
  unfold KV at r ⊢
  unfold dropK without
  induction r with
  | nil => exact .nil
  | @cons p q ps qs h t ih =>
    obtain ⟨h1, h2⟩ := h
    rw [List.filter_cons, List.filter_cons]
    by_cases e : p.1 = k
    · have a : ¬ decide (p.1 ≠ k) = true := by simp [e]
      have b : ¬ decide (q.1 ≠ k) = true := by simp [h1.symm.trans e]
      rw [if_neg a, if_neg b]; exact ih
    · have e' : ¬ q.1 = k := fun z => e (h1.trans z)
      have a : decide (p.1 ≠ k) = true := by simp [e]
      have b : decide (q.1 ≠ k) = true := by simp [e']
      rw [if_pos a, if_pos b]; exact .cons ⟨h1, h2⟩ ih
theorem KV.length {kvs : List (κ × V)} {vs : List (κ × Value)} (r : KV kvs vs) : kvs.length = vs.length := Paired.length r
end
theorem kV_is {P : Program} {w : World} {k : Key} {u : Value} (r : RelV (kV k) u) : (mixKind P w).is k u = true := by
  cases k with
  | inl i => obtain ⟨t, e⟩ := (show ∃ t, u = Value.int i t from r); subst e; exact mixKind_int P w i t
  | inr x => obtain ⟨t, e⟩ := (show ∃ t, u = Value.str x t from r); subst e; exact mixKind_str P w x t
theorem items_are {P : Program} {w : World} : ∀ {ks : List Key} {us : List Value}, Vals (ks.map kV) us → ItemsAre (mixKind P w) ks us
  | [], _, r => by rw [List.map_nil] at r; cases r; exact .nil
  | k :: ks, _, r => by
    rw [List.map_cons] at r
    cases r with
    | cons h t => exact .cons (kV_is h) (items_are t)
abbrev KT (H : Hp) : List (List Key × V) → List (List Key × Addr × Value) → Prop := Paired fun p q => p.1 = q.1 ∧ H q.2.1 = some (.tup (p.1.map kV)) ∧ RelV p.2 q.2.2
theorem KT.val {H : Hp} {kvs : List (List Key × V)} {xs : List (List Key × Addr × Value)} (r : KT H kvs xs) (k : List Key) : RelO (valV kvs k) ((atKey xs k).map (·.2)) := by
  induction r with
  | nil => exact True.intro
  | @cons p q ps qs h t ih =>
    obtain ⟨h1, _, h2⟩ := h
    by_cases e : p.1 = k
    · have e' : q.1 = k := h1.symm.trans e
      have b : atKey (q :: qs) k = some q.2 := by simp [atKey, List.find?_cons, e']
      rw [valV_pos e, b]; exact h2
    · have e' : ¬ q.1 = k := fun z => e (h1.trans z)
      have b : atKey (q :: qs) k = atKey qs k := by simp [atKey, List.find?_cons, e']
      rw [valV_neg e, b]; exact ih
theorem KT.repl {H : Hp} {kvs : List (List Key × V)} {xs : List (List Key × Addr × Value)} (r : KT H kvs xs) (k : List Key) {y : V} {u : Value} (ry : RelV y u) :
    KT H (kvs.map fun kv => if kv.1 = k then (kv.1, y) else kv) (xs.map (putAt k u)) := by
  induction r with
  | nil => exact .nil
  | @cons p q ps qs h t ih =>
    rw [List.map_cons, List.map_cons]
    refine .cons ?_ ih
    obtain ⟨h1, h2, h3⟩ := h
    unfold putAt
    by_cases e : p.1 = k
    · rw [if_pos e, if_pos (h1.symm.trans e)]; exact ⟨h1, h2, ry⟩
    · rw [if_neg e, if_neg (fun z => e (h1.trans z))]; exact ⟨h1, h2, h3⟩
theorem KT.put {H : Hp} {kvs : List (List Key × V)} {xs : List (List Key × Addr × Value)} (r : KT H kvs xs) (k : List Key) {b : Addr} {y : V} {u : Value} (hb : H b = some (.tup (k.map kV))) (ry : RelV y u) :
    KT H (putK kvs k y) (storedH xs k b u) := by
  have e : (kvs.any fun kv => decide (kv.1 = k)) = (atKey xs k).isSome := by
    rw [valV_any, (r.val k).isSome_eq, Option.isSome_map]
  unfold putK storedH
  rw [e]
  by_cases q : (atKey xs k).isSome = true
  · rw [if_pos q, if_pos q]; exact r.repl k ry
  · rw [if_neg q, if_neg q]; exact Paired.snoc r ⟨rfl, hb, ry⟩
theorem KT.keeps {H H' : Hp} {kvs : List (List Key × V)} {xs : List (List Key × Addr × Value)} (r : KT H kvs xs) (ht : ∀ b ys, H b = some (.tup ys) → H' b = some (.tup ys)) : KT H' kvs xs :=
  Paired.mapP r fun _ _ z => ⟨z.1, ht _ _ z.2.1, z.2.2⟩
section
variable {P : Program} {w : World} {H : Hp} {h : Heap} {a : Addr}
theorem rd_of {u : HO} (ok : HOk P w H h) (e : Rd H a u) : ObjOk P w H h a u := e.ok ok
theorem dk_rd {kvs : List (Key × V)} (ok : HOk P w H h) (e : Rd H a (.dK kvs)) : kvs.length ≤ sizeLine ∧ (a == sysModules) = false ∧ ∃ vs, KV kvs vs ∧ h.DictOf (mixKind P w) a vs :=
  show ObjOk P w H h a (.dK kvs) from rd_of ok e
theorem dk_of {kvs : List (Key × V)} (ok : HOk P w H h) (e : H a = some (.dK kvs)) : kvs.length ≤ sizeLine ∧ (a == sysModules) = false ∧ ∃ vs, KV kvs vs ∧ h.DictOf (mixKind P w) a vs := dk_rd ok (.inl e)
theorem key_of {ks : List Key} (ok : HOk P w H h) (e : H a = some (.tup (ks.map kV))) : (tupleKind (mixKind P w)).is h ks a := by
  obtain ⟨_, its, r, o, h1, h2, n, h3⟩ := (show ObjOk P w H h a (.tup (ks.map kV)) from ok a _ e)
  exact ⟨o, its.toArray, n, h1, h2, h3, by simpa using items_are r⟩
theorem dt_rd {kvs : List (List Key × V)} (ok : HOk P w H h) (e : Rd H a (.dT kvs)) : kvs.length ≤ sizeLine ∧ (a == sysModules) = false ∧
    ∃ xs, KT H kvs xs ∧ h.DictOfH (tupleKind (mixKind P w)) a xs := by
  obtain ⟨z, y, xs, r, o, es, ep, h1, h2, h3, h4, h5⟩ := (show ObjOk P w H h a (.dT kvs) from rd_of ok e)
  refine ⟨z, y, xs, r, o, es, ep, h1, h2, h3, h4, fun x hx => ?_, h5⟩
  have all : ∀ {l : List (List Key × V)} {m : List (List Key × Addr × Value)}, KT H l m → ∀ x ∈ m, (tupleKind (mixKind P w)).is h x.1 x.2.1 := by
    intro l m q
    induction q with
    | nil => intro x hx; exact nomatch hx
    | @cons p q ps qs hq t ih =>
      intro x hx
      rcases List.mem_cons.mp hx with e | hx
      · subst e
        exact key_of ok (by rw [← hq.1]; exact hq.2.1)
      · exact ih x hx
  exact all r x hx
theorem dt_of {kvs : List (List Key × V)} (ok : HOk P w H h) (e : H a = some (.dT kvs)) : kvs.length ≤ sizeLine ∧ (a == sysModules) = false ∧
    ∃ xs, KT H kvs xs ∧ h.DictOfH (tupleKind (mixKind P w)) a xs := dt_rd ok (.inl e)
end
def DGet (H : Hp) (a : Addr) (y : V) (r : Option V) : Prop :=
  (∃ kvs k, Rd H a (.dK kvs) ∧ y = kV k ∧ r = valV kvs k) ∨ ∃ kvs k b, Rd H a (.dT kvs) ∧ y = .ref b ∧ H b = some (.tup (k.map kV)) ∧ r = valV kvs k
def DPut (H : Hp) (a : Addr) (y v : V) (H' : Hp) : Prop :=
  (∃ kvs k, H a = some (.dK kvs) ∧ y = kV k ∧ kvs.length < sizeLine ∧ H' = upd H a (.dK (putK kvs k v))) ∨
  ∃ kvs k b, H a = some (.dT kvs) ∧ y = .ref b ∧ H b = some (.tup (k.map kV)) ∧ kvs.length < sizeLine ∧ H' = upd H a (.dT (putK kvs k v))
theorem DGet.k {H : Hp} {a : Addr} {kvs : List (Key × V)} {k : Key} (e : H a = some (.dK kvs)) : DGet H a (kV k) (valV kvs k) := .inl ⟨kvs, k, .inl e, rfl, rfl⟩
theorem DGet.t {H : Hp} {a b : Addr} {kvs : List (List Key × V)} {k : List Key} (e : H a = some (.dT kvs)) (eb : H b = some (.tup (k.map kV))) : DGet H a (.ref b) (valV kvs k) := .inr ⟨kvs, k, b, .inl e, rfl, eb, rfl⟩
theorem DPut.k {H : Hp} {a : Addr} {kvs : List (Key × V)} {k : Key} {v : V} (e : H a = some (.dK kvs)) (hl : kvs.length < sizeLine) : DPut H a (kV k) v (upd H a (.dK (putK kvs k v))) := .inl ⟨kvs, k, e, rfl, hl, rfl⟩
theorem DPut.t {H : Hp} {a b : Addr} {kvs : List (List Key × V)} {k : List Key} {v : V} (e : H a = some (.dT kvs)) (eb : H b = some (.tup (k.map kV))) (hl : kvs.length < sizeLine) :
    DPut H a (.ref b) v (upd H a (.dT (putK kvs k v))) := .inr ⟨kvs, k, b, e, rfl, eb, hl, rfl⟩
section
variable {X : Cx} {pins : List (Addr × Obj)} {σ : St} {H : Hp} {s : Shared} {a : Addr} {y v : V} {u r : Value} {o : Option V} {A : Around} {E : Value → Shared → Prop}
theorem Inv.big (I : Inv X pins σ H s) : sysModules < s.heap.objs.size := by
  have h : mainGlobals < s.heap.objs.size := (I.mod.glob.keeps I.bk).lt
  exact Nat.lt_trans (by decide) h
theorem d_write {h' : Heap} {t' : Nat} {ob : HO} (I : Inv X pins σ H s) (mu : Mut (H a)) (hs : Heap.SameBut a s.heap h') (he : ∃ q, h'.get? a = some q) (new : ObjOk X.prog X.w (upd H a ob) h' a ob) :
    Inv X pins σ (upd H a ob) { s with heap := h', toks := t' } :=
  I.write (x := a) (e := a) mu (.inl rfl) (fun b q hb z => (hs.2 b hb).trans z) he new
theorem dk_new {P : Program} {w : World} {H' : Hp} {h' : Heap} {kvs : List (Key × V)} {vs : List (Key × Value)} (z : kvs.length ≤ sizeLine) (hd : (a == sysModules) = false) (rel : KV kvs vs) (dd : h'.DictOf (mixKind P w) a vs) :
    ObjOk P w H' h' a (.dK kvs) := ⟨z, hd, vs, rel, dd⟩
theorem d_setItem {H' : Hp} {Q : Unit → Shared → Prop} (hu : A.units + 1 < cLine) (I : Inv X pins σ H s) (g : DPut H a y v H') (ry : RelV y u) (rv : RelV v r) (h : ∀ s', Inv X pins σ H' s' → Q () s') :
    wpAny (model X.prog X.w) A (setItem (.ref a) u r) Q E s := by
  rcases g with ⟨kvs, k, e, ey, l, eH⟩ | ⟨kvs, k, b, e, ey, eb, l, eH⟩
  · subst ey eH
    obtain ⟨z, hd, vs, rel, dd⟩ := dk_of I.hok e
    have hz : vs.length ≤ sizeLine := by rw [← rel.length]; exact z
    have hl : (putK kvs k v).length ≤ sizeLine := by have := length_putK kvs k v; omega
    refine wpAny_setItem_pairs (hsz := hz) (kV_is ry) dd fun h' dd' hs => h _ ?_
    have he : ∃ q, h'.get? a = some q := let ⟨q, _, _, hq, _⟩ := dd'; ⟨q, hq⟩
    exact d_write I (by rw [e]; exact True.intro) hs he (dk_new hl hd (rel.put k rv) dd')
  · subst ey eH
    cases (show u = Value.ref b from ry)
    obtain ⟨z, hd, xs, rel, dd⟩ := dt_of I.hok e
    have hz : xs.length ≤ sizeLine := by rw [← Paired.length rel]; exact z
    have hl : (putK kvs k v).length ≤ sizeLine := by have := length_putK kvs k v; omega
    refine wpAny_setItem_heap (hsz := hz) (tupleKind_room_in1 hu) (key_of I.hok eb) dd fun h' dd' hs => h _ ?_
    obtain ⟨q, es, ep, hq, h2, h3, h4, _, h5⟩ := dd'
    refine d_write I (by rw [e]; exact True.intro) hs ⟨q, hq⟩ ⟨hl, hd, _, (rel.put k eb rv).keeps fun c ys ec => ?_, q, es, ep, hq, h2, h3, h4, h5⟩
    rw [upd_ne (ne_of ec e (fun z => nomatch z))]
    exact ec
end
section
variable {X : Cx} {pins : List (Addr × Obj)} {σ : St} {H : Hp} {s : Shared} {a : Addr} {kvs : List (Key × V)} {k : Key} {u : Value} {A : Around} {E : Value → Shared → Prop}
end
def sDPut (td ty tv : TE) : TS := fun D σ H => tv σ H fun v H1 => td σ H1 fun x H2 => ty σ H2 fun y H3 => ∃ a H4, x = .ref a ∧ DPut H3 a y v H4 ∧ D.nx σ H4
section
variable {X : Cx} {o i e value : Expr} {pos pos' tpos : Pos} {td ty tv : TE}
theorem ps_dput (hu : X.A.units + 1 < cLine) (ho : PE X o td) (hi : PE X i ty) (hv : PE X value tv) (hs : swapsWith value (some (.Subscript o i pos')) pos.line X.env = pure false) :
    PS X (.Assign [.Subscript o i pos'] value pos) (sDPut td ty tv) := by
  intro pins s σ H D I h
  refine wpAny_Assign_Subscript (thn (hv pins s σ H _ I h) fun r s1 ⟨v, H1, I1, rv, q1⟩ => thn (ho pins s1 σ H1 _ I1 q1) fun u s2 ⟨x, H2, I2, rx, q2⟩ => thn (hi pins s2 σ H2 _ I2 q2) fun iv s3 ⟨y, H3, I3, ry, a, H4, ex, g, q3⟩ => ?_) hs
  subst ex
  obtain rfl : u = Value.ref a := rx
  exact d_setItem hu I3 g ry rv fun s4 I4 => ⟨σ, H4, I4, q3⟩
end
theorem dt_empty {P : Program} {w : World} {H : Hp} (h : Heap) (hb : sysModules < h.objs.size) : ObjOk P w H (h.push { cls := .type "dict", data := .dict #[] }) h.objs.size (.dT []) :=
  ⟨Nat.zero_le _, beq_eq_false_iff_ne.mpr (Ne.symm (Nat.ne_of_lt hb)), [], .nil, _, #[], 0, Heap.get?_push_size _ rfl, ⟨rfl, rfl, rfl⟩, rfl, rfl, List.nodup_nil⟩
def tDNewT : TE := fun _ H Q => ∀ p, H p = none → Q (.ref p) (upd H p (.dT []))
section
variable {X : Cx} {pos : Pos}
theorem pe_dnewT : PE X (.Dict [] [] pos) tDNewT := fun pins s σ H Q I h =>
  wpAny_Dict_empty ⟨.ref s.heap.objs.size, _, I.laid (a := s.heap.objs.size) (o := .dT []) (t' := s.toks) (fun _ _ q => Heap.get?_push_of_some _ q) (Nat.le_refl _) (dt_empty s.heap I.big), rfl, h _ (I.hok.fresh (Nat.le_refl _))⟩
end
structure M1 (X : Cx) (o : Expr) (m : Str) (apos : Pos) (e : Expr) (cpos : Pos) : Prop where
  base : attributeBase o m X.env (eval o X.env) = eval o X.env
  few : ((backTo cpos (starEach [e] X.env)).all (fun x => !x.1) && (backToKw cpos (keywordEach [] X.env)).all (fun x => x.1.isSome)
    && decide (([e] : List Expr).length + ([] : List Keyword).length + (if ([] : List Keyword).isEmpty then 0 else 1) < 30)) = true
  line : (apos.endLine == cpos.line) = true
  trees : backTo cpos (starEach [e] X.env) = [(false, eval e X.env)]
def IsD (H : Hp) (a : Addr) : Prop := (∃ kvs, Rd H a (.dK kvs)) ∨ ∃ kvs, Rd H a (.dT kvs)
theorem isD_at {X : Cx} {pins : List (Addr × Obj)} {σ : St} {H : Hp} {s : Shared} {a : Addr} (I : Inv X pins σ H s) (d : IsD H a) :
    s.TypeIs (.ref a) "dict" ∧ (∀ b, Value.ref a = .ref b → ∃ ob, s.heap.get? b = some ob ∧ ob.dict = none) ∧ (a == sysModules) = false := by
  rcases d with ⟨kvs, e⟩ | ⟨kvs, e⟩
  · obtain ⟨_, hd, vs, _, dd⟩ := dk_rd I.hok e
    refine ⟨dd.typeIs, fun b q => ?_, hd⟩
    cases q
    obtain ⟨ob, _, _, h1, h2, _⟩ := dd
    exact ⟨ob, h1, h2.2.1⟩
  · obtain ⟨_, hd, xs, _, dd⟩ := dt_rd I.hok e
    refine ⟨dd.typeIs, fun b q => ?_, hd⟩
    cases q
    obtain ⟨ob, _, _, h1, h2, _⟩ := dd
    exact ⟨ob, h1, h2.2.1⟩
section
variable {X : Cx} {pins : List (Addr × Obj)} {σ : St} {H : Hp} {s : Shared} {a : Addr} {y d : V} {u r : Value} {o : Option V} {A : Around} {E : Value → Shared → Prop}
theorem d_get1 {Q : Value → Shared → Prop} (hu : A.units + 1 < cLine) (I : Inv X pins σ H s) (g : DGet H a y o) (ry : RelV y u) (h : ∀ w' s', Inv X pins σ H s' → RelV (o.getD .non) w' → Q w' s') :
    wpAny (model X.prog X.w) A (call (.builtin "dict.get") [.ref a, u]) Q E s := by
  rcases g with ⟨kvs, k, e, ey, l⟩ | ⟨kvs, k, b, e, ey, eb, l⟩
  · subst ey
    obtain ⟨z, hd, vs, rel, dd⟩ := dk_rd I.hok e
    refine call_meetsIn PySem.F.slot_dict_get dd.typeIs PySem.F.entry_dict_get (PySem.F.args_dict_get_2 _ _) (meets_dict_get (mixKind X.prog X.w) a (kV_is ry) hd) ⟨_, dd.mapOf, h _ _ (I.tok _) ?_⟩
    rw [l]
    exact (rel.val k).getD rfl
  · subst ey
    cases (show u = Value.ref b from ry)
    obtain ⟨z, hd, xs, rel, dd⟩ := dt_rd I.hok e
    refine call_meetsIn PySem.F.slot_dict_get dd.typeIs PySem.F.entry_dict_get (PySem.F.args_dict_get_2 _ _) (meetsH_dict_get (tupleKind (mixKind X.prog X.w)) a b hd) ⟨tupleKind_room_in1 hu, k, xs, key_of I.hok eb, dd, h _ _ (I.tok _) ?_⟩
    rw [l]
    exact (rel.val k).getD rfl
end
def tDGet1 (td ty : TE) : TE := fun σ H Q => td σ H fun x H1 => ∃ a, x = .ref a ∧ IsD H1 a ∧ ty σ H1 fun y H2 => ∃ o, DGet H2 a y o ∧ Q (o.getD .non) H2
section
variable {X : Cx} {o e f : Expr} {apos cpos : Pos} {td ty tx : TE}
theorem pe_dget1 (hu : X.A.units + 1 < cLine) (ho : PE X o td) (he : PE X e ty) (m : M1 X o "get" apos e cpos) : PE X (.Call (.Attribute o "get" apos) [e] [] cpos) (tDGet1 td ty) := by
  intro pins s σ H Q I h
  refine wpAny_Call_method m.base m.few m.line PySem.F.plainAttrs_dict PySem.F.slot_dict_get PySem.F.type_dict_get (thn (ho pins s σ H _ I h) fun u s1 ⟨x, H1, I1, rx, a, ex, d, q1⟩ => ?_)
  subst ex
  obtain rfl : u = Value.ref a := rx
  obtain ⟨t1, t2, _⟩ := isD_at I1 d
  refine ⟨t1, t2, ?_⟩
  rw [m.trees]
  refine Calls.callWith_builtin rfl (Calls.evalArgs_plain (Calls.spliced_cons (thn (he pins s1 σ H1 _ I1 q1) fun iv s2 ⟨y, H2, I2, ry, ov, g, q2⟩ => Calls.spliced_nil ?_)))
  exact d_get1 hu I2 g ry fun w' s3 I3 rw' => ⟨_, H2, I3, rw', q2⟩
end
section
variable {X : Cx} {pins : List (Addr × Obj)} {σ : St} {H : Hp} {s : Shared} {a : Addr} {kvs : List (Key × V)} {A : Around} {E : Value → Shared → Prop}
end
section
variable {X : Cx} {pins : List (Addr × Obj)} {σ : St} {H : Hp} {s : Shared} {a : Addr} {y : V} {u : Value} {A : Around} {E : Value → Shared → Prop}
end
end L2
namespace L2
open PySem PySem.Spec PyProof.Rows
section
variable {X : Cx}
end
section
variable {κ : Type} [DecidableEq κ]
end
end L2
namespace L3
abbrev St := L2.St
open PySem PySem.Spec PyProof.Rows L2
inductive D where
  | non | bl (b : Bool) | int (i : Int) | str (x : Str) | tup (xs : List D) | ref (n : Nat) | fn (a : Addr)
inductive Ob where
  | lst (xs : List D) | flst (xs : List D) | iset (f : Int → Bool) (n : Nat) | dct (kvs : List (Key × D)) | fdct (kvs : List (Key × D)) | tdct (kvs : List (List Key × D)) | ftdct (kvs : List (List Key × D)) | tset (ks : List (List Int)) | fnc (x : Str) | exc (c : Str)
def Ob.mut : Ob → Bool
  | .flst _ => false
  | .fnc _ => false
  | _ => true
abbrev Sto := List Ob
abbrev Lo := List (Option D)
mutual
inductive RD (ρ : List Addr) (H : Hp) : D → V → Prop where
  | non : RD ρ H .non .non
  | bl (b : Bool) : RD ρ H (.bl b) (.bl b)
  | int (i : Int) : RD ρ H (.int i) (.int i)
  | str (x : Str) : RD ρ H (.str x) (.str x)
  | tup {xs : List D} {a : Addr} {vs : List V} : H a = some (.tup vs) → RDs ρ H xs vs → RD ρ H (.tup xs) (.ref a)
  | ref {n : Nat} {a : Addr} : ρ[n]? = some a → RD ρ H (.ref n) (.ref a)
  | fn (a : Addr) : RD ρ H (.fn a) (.ref a)
inductive RDs (ρ : List Addr) (H : Hp) : List D → List V → Prop where
  | nil : RDs ρ H [] []
  | cons {x : D} {v : V} {xs : List D} {vs : List V} : RD ρ H x v → RDs ρ H xs vs → RDs ρ H (x :: xs) (v :: vs)
end
structure Ext0 (ρ : List Addr) (H : Hp) (ρ' : List Addr) (H' : Hp) : Prop where
  pre : ∀ (n : Nat) (a : Addr), ρ[n]? = some a → ρ'[n]? = some a
  tup : ∀ a vs, H a = some (.tup vs) → H' a = some (.tup vs)
  frz : ∀ a o u, H a = some (.frz o u) → H' a = some (.frz o u)
structure Ext (ρ : List Addr) (H : Hp) (ρ' : List Addr) (H' : Hp) : Prop extends Ext0 ρ H ρ' H' where
  out : ∀ a (vs : HO), H a = some vs → (∀ n : Nat, ρ[n]? ≠ some a) → H' a = some vs ∧ ∀ n : Nat, ρ'[n]? ≠ some a
theorem Ext.refl (ρ : List Addr) (H : Hp) : Ext ρ H ρ H := ⟨⟨fun _ _ h => h, fun _ _ h => h, fun _ _ _ h => h⟩, fun _ _ h n => ⟨h, n⟩⟩
theorem Ext.trans {ρ ρ1 ρ2 : List Addr} {H H1 H2 : Hp} (a : Ext ρ H ρ1 H1) (b : Ext ρ1 H1 ρ2 H2) : Ext ρ H ρ2 H2 :=
  ⟨⟨fun n x h => b.pre n x (a.pre n x h), fun n x h => b.tup n x (a.tup n x h), fun n o x h => b.frz n o x (a.frz n o x h)⟩, fun x vs h n => let ⟨h1, n1⟩ := a.out x vs h n; b.out x vs h1 n1⟩
section
variable {ρ ρ' : List Addr} {H H' : Hp}
mutual
theorem RD.mono0 (e : Ext0 ρ H ρ' H') : ∀ {d : D} {v : V}, RD ρ H d v → RD ρ' H' d v
  | _, _, .non => .non
  | _, _, .bl b => .bl b
  | _, _, .int i => .int i
  | _, _, .str x => .str x
  | _, _, .tup h r => .tup (e.tup _ _ h) (RDs.mono0 e r)
  | _, _, .ref h => .ref (e.pre _ _ h)
  | _, _, .fn a => .fn a
theorem RDs.mono0 (e : Ext0 ρ H ρ' H') : ∀ {d : List D} {v : List V}, RDs ρ H d v → RDs ρ' H' d v
  | _, _, .nil => .nil
  | _, _, .cons r q => .cons (RD.mono0 e r) (RDs.mono0 e q)
end
theorem RD.mono {d : D} {v : V} (r : RD ρ H d v) (e : Ext ρ H ρ' H') : RD ρ' H' d v := r.mono0 e.toExt0
theorem RDs.mono {d : List D} {v : List V} (r : RDs ρ H d v) (e : Ext ρ H ρ' H') : RDs ρ' H' d v := r.mono0 e.toExt0
theorem RDs.length : ∀ {d : List D} {v : List V}, RDs ρ H d v → d.length = v.length
  | _, _, .nil => rfl
  | _, _, .cons _ q => congrArg (· + 1) (RDs.length q)
theorem RDs.get : ∀ {d : List D} {v : List V} {i : Nat} {x : D}, RDs ρ H d v → d[i]? = some x → ∃ u, v[i]? = some u ∧ RD ρ H x u
  | _, _, _, _, .nil, e => by simp at e
  | _, _, 0, _, .cons r _, e => by simp at e; subst e; exact ⟨_, rfl, r⟩
  | _, _, i + 1, x, .cons _ q, e => by
    obtain ⟨u, h1, h2⟩ := RDs.get (i := i) (x := x) q (by simpa using e)
    exact ⟨u, by simpa using h1, h2⟩
theorem RDs.set {x : D} {u : V} (r : RD ρ H x u) : ∀ {d : List D} {v : List V} (i : Nat), RDs ρ H d v → RDs ρ H (d.set i x) (v.set i u)
  | _, _, _, .nil => .nil
  | _, _, 0, .cons _ q => .cons r q
  | _, _, i + 1, .cons p q => .cons p (RDs.set r i q)
theorem RDs.append : ∀ {d e : List D} {v w : List V}, RDs ρ H d v → RDs ρ H e w → RDs ρ H (d ++ e) (v ++ w)
  | _, _, _, _, .nil, q => q
  | _, _, _, _, .cons r p, q => .cons r (RDs.append p q)
theorem RDs.take : ∀ {d : List D} {v : List V} (n : Nat), RDs ρ H d v → RDs ρ H (d.take n) (v.take n)
  | _, _, 0, _ => .nil
  | _, _, _ + 1, .nil => .nil
  | _, _, n + 1, .cons r t => .cons r (RDs.take n t)
theorem RDs.drop : ∀ {d : List D} {v : List V} (n : Nat), RDs ρ H d v → RDs ρ H (d.drop n) (v.drop n)
  | _, _, 0, r => r
  | _, _, _ + 1, .nil => .nil
  | _, _, n + 1, .cons _ t => RDs.drop n t
theorem RDs.reverse : ∀ {d : List D} {v : List V}, RDs ρ H d v → RDs ρ H d.reverse v.reverse
  | _, _, .nil => .nil
  | _, _, .cons r t => by rw [List.reverse_cons, List.reverse_cons]; exact RDs.append (RDs.reverse t) (.cons r .nil)
theorem RDs.rep {xs : List D} {us : List V} (h : RDs ρ H xs us) : ∀ k : Nat, RDs ρ H (List.replicate k xs).flatten (List.replicate k us).flatten
  | 0 => .nil
  | k + 1 => by
    rw [List.replicate_succ, List.replicate_succ, List.flatten_cons, List.flatten_cons]
    exact RDs.append h (RDs.rep h k)
theorem RDs.one {x : D} {vs : List V} (h : RDs ρ H [x] vs) : ∃ v, vs = [v] ∧ RD ρ H x v := by
  cases h with
  | cons r q => cases q; exact ⟨_, rfl, r⟩
theorem RDs.two {x y : D} {vs : List V} (h : RDs ρ H [x, y] vs) : ∃ v u, vs = [v, u] ∧ RD ρ H x v ∧ RD ρ H y u := by
  cases h with
  | cons r q => obtain ⟨u, rfl, r2⟩ := q.one; exact ⟨_, _, rfl, r, r2⟩
end
def Fz (K : PySem.W.Frag) (H : Hp) (a : Addr) (xs : List V) : Prop := (∃ o, H a = some (.frz o (.lst xs))) ∨
    ∃ (o : Obj) (its : Array Value) (n : Nat), K.lookup a = some o ∧ o.cls = .type "list" ∧ o.dict = none ∧ o.data = .seq its n ∧ its.size ≤ sizeLine ∧ Vals xs its.toList
theorem Fz.sq {K : PySem.W.Frag} {H : Hp} {a : Addr} {xs : List V} (h : Fz K H a xs) : SqL K H a xs := by
  rcases h with ⟨o, h⟩ | h
  · exact .inl (.inr ⟨o, h⟩)
  · exact .inr h
def ObR (K : PySem.W.Frag) (ρ : List Addr) (H : Hp) : Ob → Addr → Prop
  | .lst xs, a => ∃ vs, H a = some (.lst vs) ∧ RDs ρ H xs vs
  | .flst xs, a => ∃ vs, Fz K H a vs ∧ RDs ρ H xs vs
  | .iset f n, a => H a = some (.set f n)
  | .dct kvs, a => ∃ vs, H a = some (.dK ((kvs.map (·.1)).zip vs)) ∧ RDs ρ H (kvs.map (·.2)) vs
  | .fdct kvs, a => ∃ o vs, H a = some (.frz o (.dK ((kvs.map (·.1)).zip vs))) ∧ RDs ρ H (kvs.map (·.2)) vs
  | .tdct kvs, a => ∃ vs, H a = some (.dT ((kvs.map (·.1)).zip vs)) ∧ RDs ρ H (kvs.map (·.2)) vs
  | .ftdct kvs, a => ∃ o vs, H a = some (.frz o (.dT ((kvs.map (·.1)).zip vs))) ∧ RDs ρ H (kvs.map (·.2)) vs
  | .tset ks, a => ∃ xs : List (List Int × Addr), ks = xs.map (·.1) ∧ H a = some (.ext (TS.TSet a xs)) ∧ ∀ p ∈ xs, H p.2 = some (.tup (p.1.map V.int))
  | .fnc x, a => PySem.W.nsIn K mainGlobals x = some (some (.ref a)) ∧ ∃ o, K.lookup a = some o
  | .exc c, a => ∃ C, PySem.W.nsIn K mainGlobals c = some (some (.ref C)) ∧ H a = some (.ext (fun h => ∃ o, h.get? a = some o ∧ o.cls = .ref C))
structure Sim (K : PySem.W.Frag) (ρ : List Addr) (S : Sto) (H : Hp) : Prop where
  len : ρ.length = S.length
  nd : ∀ (i j : Nat) (a : Addr) (o1 o2 : Ob), ρ[i]? = some a → ρ[j]? = some a → S[i]? = some o1 → S[j]? = some o2 → o1.mut = true → o2.mut = true → i = j
  at' : ∀ (n : Nat) (a : Addr) (o : Ob), ρ[n]? = some a → S[n]? = some o → ObR K ρ H o a
section
variable {K : PySem.W.Frag} {ρ ρ' : List Addr} {H : Hp} {S : Sto}
theorem ext_new {p : Addr} {o : HO} (hp : H p = none) : Ext ρ H ρ (upd H p o) :=
  ⟨⟨fun _ _ h => h, fun a vs h => by rw [upd_ne (ne_of_none h hp)]; exact h, fun a o vs h => by rw [upd_ne (ne_of_none h hp)]; exact h⟩, fun a vs h n => ⟨by rw [upd_ne (ne_of_none h hp)]; exact h, n⟩⟩
theorem ext0_upd {p : Addr} {o : HO} {ys : List V} (hp : H p = some (.lst ys)) : Ext0 ρ H ρ (upd H p o) :=
  ⟨fun _ _ h => h, fun a vs h => by rw [upd_ne (ne_of h hp (by intro z; cases z))]; exact h, fun a o vs h => by rw [upd_ne (ne_of h hp (by intro z; cases z))]; exact h⟩
def Plain (u : HO) : Prop := (∀ vs, u ≠ .tup vs) ∧ ∀ o v, u ≠ .frz o v
theorem plain_lst (ys : List V) : Plain (.lst ys) := ⟨fun _ z => (by cases z), fun _ _ z => (by cases z)⟩
theorem ext0_updG {p : Addr} {o u : HO} (hp : H p = some u) (hu : Plain u) : Ext0 ρ H ρ (upd H p o) :=
  ⟨fun _ _ h => h, fun a vs h => by rw [upd_ne (ne_of h hp (fun z => hu.1 vs z.symm))]; exact h, fun a o vs h => by rw [upd_ne (ne_of h hp (fun z => hu.2 o vs z.symm))]; exact h⟩
theorem ext_updG {p : Addr} {o u : HO} {n : Nat} (hn : ρ[n]? = some p) (hp : H p = some u) (hu : Plain u) : Ext ρ H ρ (upd H p o) :=
  ⟨ext0_updG hp hu, fun a vs h hm => ⟨by rw [upd_ne (fun z => hm n (by rw [z]; exact hn))]; exact h, hm⟩⟩
theorem ext_upd {p : Addr} {o : HO} {ys : List V} {n : Nat} (hn : ρ[n]? = some p) (hp : H p = some (.lst ys)) : Ext ρ H ρ (upd H p o) :=
  ⟨ext0_upd hp, fun a vs h hm => ⟨by rw [upd_ne (fun z => hm n (by rw [z]; exact hn))]; exact h, hm⟩⟩
theorem ObR.laid {o : Ob} {a p : Addr} {u : HO} (h : ObR K ρ H o a) (hp : H p = none) : ObR K ρ (upd H p u) o a := by
  cases o with
  | lst xs =>
    obtain ⟨vs, e, r⟩ := h
    exact ⟨vs, by rw [upd_ne (ne_of_none e hp)]; exact e, r.mono (ext_new hp)⟩
  | flst xs =>
    obtain ⟨vs, e, r⟩ := h
    refine ⟨vs, ?_, r.mono (ext_new hp)⟩
    rcases e with ⟨o, e⟩ | e
    · exact .inl ⟨o, by rw [upd_ne (ne_of_none e hp)]; exact e⟩
    · exact .inr e
  | iset f n =>
    show upd H p u a = some (.set f n)
    have e : H a = some (.set f n) := h
    rw [upd_ne (ne_of_none e hp)]; exact e
  | dct kvs =>
    obtain ⟨vs, e, r⟩ := h
    exact ⟨vs, by rw [upd_ne (ne_of_none e hp)]; exact e, r.mono (ext_new hp)⟩
  | fdct kvs =>
    obtain ⟨o, vs, e, r⟩ := h
    exact ⟨o, vs, by rw [upd_ne (ne_of_none e hp)]; exact e, r.mono (ext_new hp)⟩
  | tdct kvs =>
    obtain ⟨vs, e, r⟩ := h
    exact ⟨vs, by rw [upd_ne (ne_of_none e hp)]; exact e, r.mono (ext_new hp)⟩
  | ftdct kvs =>
    obtain ⟨o, vs, e, r⟩ := h
    exact ⟨o, vs, by rw [upd_ne (ne_of_none e hp)]; exact e, r.mono (ext_new hp)⟩
  | tset ks =>
    obtain ⟨xs, e0, e, r⟩ := h
    exact ⟨xs, e0, by rw [upd_ne (ne_of_none e hp)]; exact e, fun p hq => by rw [upd_ne (ne_of_none (r p hq) hp)]; exact r p hq⟩
  | fnc x => exact h
  | exc c =>
    obtain ⟨C, hc, e⟩ := h
    exact ⟨C, hc, by rw [upd_ne (ne_of_none e hp)]; exact e⟩
theorem ObR.writtenG {o : Ob} {a p : Addr} {u u0 : HO} (h : ObR K ρ H o a) (hp : H p = some u0) (hu : Plain u0) (hn : o.mut = true → a ≠ p) : ObR K ρ (upd H p u) o a := by
  cases o with
  | lst xs =>
    obtain ⟨vs, e, r⟩ := h
    exact ⟨vs, by rw [upd_ne (hn rfl)]; exact e, r.mono0 (ext0_updG hp hu)⟩
  | flst xs =>
    obtain ⟨vs, e, r⟩ := h
    refine ⟨vs, ?_, r.mono0 (ext0_updG hp hu)⟩
    rcases e with ⟨o, e⟩ | e
    · exact .inl ⟨o, by rw [upd_ne (ne_of e hp (fun z => hu.2 _ _ z.symm))]; exact e⟩
    · exact .inr e
  | iset f n =>
    show upd H p u a = some (.set f n)
    rw [upd_ne (hn rfl)]; exact h
  | dct kvs =>
    obtain ⟨vs, e, r⟩ := h
    exact ⟨vs, by rw [upd_ne (hn rfl)]; exact e, r.mono0 (ext0_updG hp hu)⟩
  | tdct kvs =>
    obtain ⟨vs, e, r⟩ := h
    exact ⟨vs, by rw [upd_ne (hn rfl)]; exact e, r.mono0 (ext0_updG hp hu)⟩
  | fdct kvs =>
    obtain ⟨o, vs, e, r⟩ := h
    exact ⟨o, vs, by rw [upd_ne (hn rfl)]; exact e, r.mono0 (ext0_updG hp hu)⟩
  | ftdct kvs =>
    obtain ⟨o, vs, e, r⟩ := h
    exact ⟨o, vs, by rw [upd_ne (hn rfl)]; exact e, r.mono0 (ext0_updG hp hu)⟩
  | tset ks =>
    obtain ⟨xs, e0, e, r⟩ := h
    exact ⟨xs, e0, by rw [upd_ne (hn rfl)]; exact e, fun p hq => (ext0_updG (ρ := ρ) hp hu).tup _ _ (r p hq)⟩
  | fnc x => exact h
  | exc c =>
    obtain ⟨C, hc, e⟩ := h
    exact ⟨C, hc, by rw [upd_ne (hn rfl)]; exact e⟩
theorem ObR.written {o : Ob} {a p : Addr} {u : HO} {ys : List V} (h : ObR K ρ H o a) (hp : H p = some (.lst ys)) (hn : o.mut = true → a ≠ p) : ObR K ρ (upd H p u) o a := h.writtenG hp (plain_lst ys) hn
theorem ObR.more {o : Ob} {a : Addr} (h : ObR K ρ H o a) (e : Ext0 ρ H ρ' H) : ObR K ρ' H o a := by
  cases o with
  | lst xs => obtain ⟨vs, e1, r⟩ := h; exact ⟨vs, e1, r.mono0 e⟩
  | flst xs => obtain ⟨vs, e1, r⟩ := h; exact ⟨vs, e1, r.mono0 e⟩
  | iset f n => exact h
  | dct kvs => obtain ⟨vs, e1, r⟩ := h; exact ⟨vs, e1, r.mono0 e⟩
  | tdct kvs => obtain ⟨vs, e1, r⟩ := h; exact ⟨vs, e1, r.mono0 e⟩
  | fdct kvs => obtain ⟨o, vs, e1, r⟩ := h; exact ⟨o, vs, e1, r.mono0 e⟩
  | ftdct kvs => obtain ⟨o, vs, e1, r⟩ := h; exact ⟨o, vs, e1, r.mono0 e⟩
  | tset ks => exact h
  | fnc x => exact h
  | exc c => exact h
theorem Sim.laid (s : Sim K ρ S H) {p : Addr} {u : HO} (hp : H p = none) : Sim K ρ S (upd H p u) :=
  ⟨s.len, s.nd, fun n a o h1 h2 => (s.at' n a o h1 h2).laid hp⟩
theorem Sim.lst {n : Nat} {xs : List D} (s : Sim K ρ S H) (h : S[n]? = some (.lst xs)) : ∃ a vs, ρ[n]? = some a ∧ H a = some (.lst vs) ∧ RDs ρ H xs vs := by
  have hl : n < ρ.length := by rw [s.len]; exact (List.getElem?_eq_some_iff.mp h).1
  obtain ⟨vs, e, r⟩ := s.at' n _ _ (List.getElem?_eq_getElem hl) h
  exact ⟨_, vs, List.getElem?_eq_getElem hl, e, r⟩
def lstOf (S : Sto) (n : Nat) : Option (List D) := match S[n]? with
  | some (.lst xs) => some xs
  | some (.flst xs) => some xs
  | _ => none
theorem Sim.lstOf {n : Nat} {xs : List D} (s : Sim K ρ S H) (h : L3.lstOf S n = some xs) : ∃ a vs, ρ[n]? = some a ∧ SqL K H a vs ∧ RDs ρ H xs vs := by
  unfold L3.lstOf at h
  cases e : S[n]? with
  | none => rw [e] at h; cases h
  | some o =>
    have hl : n < ρ.length := by rw [s.len]; exact (List.getElem?_eq_some_iff.mp e).1
    have q := s.at' n _ _ (List.getElem?_eq_getElem hl) e
    rw [e] at h
    cases o with
    | lst ys =>
      cases h
      obtain ⟨vs, e1, r⟩ := q
      exact ⟨_, vs, List.getElem?_eq_getElem hl, .inl (.inl e1), r⟩
    | flst ys =>
      cases h
      obtain ⟨vs, e1, r⟩ := q
      exact ⟨_, vs, List.getElem?_eq_getElem hl, e1.sq, r⟩
    | iset f n => cases h
    | dct kvs => cases h
    | fdct kvs => cases h
    | ftdct kvs => cases h
    | tset ks => cases h
    | fnc x => cases h
    | tdct kvs => cases h
    | exc c => cases h
theorem Sim.setG {n : Nat} {a : Addr} {o0 o1 : Ob} {u0 u1 : HO} (s : Sim K ρ S H) (ha : ρ[n]? = some a) (hS : S[n]? = some o0) (hm0 : o0.mut = true) (hH : H a = some u0) (hu : Plain u0) (r : ObR K ρ (upd H a u1) o1 a) : Sim K ρ (S.set n o1) (upd H a u1) := by
  have hl : n < S.length := (List.getElem?_eq_some_iff.mp hS).1
  have key : ∀ (m : Nat) (w : Ob), w.mut = true → (S.set n o1)[m]? = some w → ∃ w', S[m]? = some w' ∧ w'.mut = true := fun m w hw h => by
    by_cases hmn : n = m
    · subst hmn; exact ⟨_, hS, hm0⟩
    · rw [List.getElem?_set_ne hmn] at h; exact ⟨_, h, hw⟩
  refine ⟨by rw [List.length_set]; exact s.len, fun i j b x1 x2 h1 h2 h3 h4 m1 m2 => ?_, fun m b o h1 h2 => ?_⟩
  · obtain ⟨_, h3, q3⟩ := key i x1 m1 h3
    obtain ⟨_, h4, q4⟩ := key j x2 m2 h4
    exact s.nd i j b _ _ h1 h2 h3 h4 q3 q4
  by_cases hmn : n = m
  · subst hmn
    rw [ha] at h1; cases h1
    rw [List.getElem?_set_self hl] at h2
    cases h2
    exact r
  · rw [List.getElem?_set_ne hmn] at h2
    exact (s.at' m b o h1 h2).writtenG hH hu (fun e z => hmn (s.nd n m a _ _ ha (by rw [h1, z]) hS h2 hm0 e))
theorem Sim.set {n : Nat} {a : Addr} {ys : List V} {xs zs : List D} {vs : List V} (s : Sim K ρ S H) (ha : ρ[n]? = some a) (hS : S[n]? = some (.lst zs)) (hH : H a = some (.lst ys)) (r : RDs ρ H xs vs) : Sim K ρ (S.set n (.lst xs)) (upd H a (.lst vs)) :=
  s.setG ha hS rfl hH (plain_lst ys) ⟨vs, upd_same, r.mono0 (ext0_upd hH)⟩
theorem ext0_push {a : Addr} : Ext0 ρ H (ρ ++ [a]) H :=
  ⟨fun n b h => by rw [List.getElem?_append_left (List.getElem?_eq_some_iff.mp h).1]; exact h, fun _ _ h => h, fun _ _ _ h => h⟩
theorem get_push {α : Type} {l : List α} {a b : α} {n : Nat} (h : (l ++ [a])[n]? = some b) : l[n]? = some b ∨ (n = l.length ∧ b = a) := by
  by_cases hl : n < l.length
  · rw [List.getElem?_append_left hl] at h; exact .inl h
  · rw [List.getElem?_append_right (by omega)] at h
    have : n - l.length = 0 := by
      have := (List.getElem?_eq_some_iff.mp h).1
      simp at this; omega
    rw [this] at h; simp at h
    exact .inr ⟨by omega, h.symm⟩
theorem ext_newl {a : Addr} {vs : List V} (ha : H a = none) : Ext ρ H (ρ ++ [a]) (upd H a (.lst vs)) :=
  ⟨⟨ext0_push.pre (H := H), fun b us h => by rw [upd_ne (ne_of_none h ha)]; exact h, fun b o us h => by rw [upd_ne (ne_of_none h ha)]; exact h⟩, fun b us h n => ⟨by rw [upd_ne (ne_of_none h ha)]; exact h, fun i hi => by
    rcases get_push hi with hi | ⟨_, e⟩
    · exact n i hi
    · rw [e, ha] at h; cases h⟩⟩
theorem ext_newG {a : Addr} {u : HO} (ha : H a = none) : Ext ρ H (ρ ++ [a]) (upd H a u) :=
  ⟨⟨ext0_push.pre (H := H), fun b us h => by rw [upd_ne (ne_of_none h ha)]; exact h, fun b o us h => by rw [upd_ne (ne_of_none h ha)]; exact h⟩, fun b us h n => ⟨by rw [upd_ne (ne_of_none h ha)]; exact h, fun i hi => by
    rcases get_push hi with hi | ⟨_, e⟩
    · exact n i hi
    · rw [e, ha] at h; cases h⟩⟩
theorem Sim.pushG {a : Addr} {o1 : Ob} {u : HO} (s : Sim K ρ S H) (ha : H a = none) (r : ObR K (ρ ++ [a]) (upd H a u) o1 a) : Sim K (ρ ++ [a]) (S ++ [o1]) (upd H a u) := by
  have no : ∀ (n : Nat) (o : Ob), o.mut = true → ρ[n]? = some a → S[n]? = some o → False := fun n o hm h1 h2 => by
    have q := s.at' n a _ h1 h2
    cases o with
    | lst xs => obtain ⟨vs, e, _⟩ := q; rw [ha] at e; cases e
    | flst xs => cases hm
    | iset f n => have q : H a = _ := q; rw [ha] at q; cases q
    | dct kvs => obtain ⟨vs, e, _⟩ := q; rw [ha] at e; cases e
    | tdct kvs => obtain ⟨vs, e, _⟩ := q; rw [ha] at e; cases e
    | fdct kvs => obtain ⟨o, vs, e, _⟩ := q; rw [ha] at e; cases e
    | ftdct kvs => obtain ⟨o, vs, e, _⟩ := q; rw [ha] at e; cases e
    | tset ks => obtain ⟨xs, _, e, _⟩ := q; rw [ha] at e; cases e
    | fnc x => cases hm
    | exc c => obtain ⟨C, _, e⟩ := q; rw [ha] at e; cases e
  refine ⟨by simp [s.len], fun i j b x1 x2 h1 h2 h3 h4 m1 m2 => ?_, fun n b o h1 h2 => ?_⟩
  · rcases get_push h3 with h3 | ⟨e3, _⟩ <;> rcases get_push h4 with h4 | ⟨e4, _⟩
    · have l1 := (List.getElem?_eq_some_iff.mp h3).1
      have l2 := (List.getElem?_eq_some_iff.mp h4).1
      rcases get_push h1 with h1 | ⟨e1, f1⟩ <;> rcases get_push h2 with h2 | ⟨e2, f2⟩
      · exact s.nd i j b _ _ h1 h2 h3 h4 m1 m2
      · have := s.len; omega
      · have := s.len; omega
      · have := s.len; omega
    · have l1 := (List.getElem?_eq_some_iff.mp h3).1
      rcases get_push h2 with h2 | ⟨e2, f2⟩
      · have := (List.getElem?_eq_some_iff.mp h2).1; have := s.len; omega
      · subst f2
        rcases get_push h1 with h1 | ⟨e1, _⟩
        · exact (no i _ m1 h1 h3).elim
        · have := s.len; omega
    · have l1 := (List.getElem?_eq_some_iff.mp h4).1
      rcases get_push h1 with h1 | ⟨e2, f2⟩
      · have := (List.getElem?_eq_some_iff.mp h1).1; have := s.len; omega
      · subst f2
        rcases get_push h2 with h2 | ⟨e1, _⟩
        · exact (no j _ m2 h2 h4).elim
        · have := s.len; omega
    · omega
  · rcases get_push h2 with h2 | ⟨e2, f2⟩
    · rcases get_push h1 with h1 | ⟨e1, f1⟩
      · exact ((s.at' n b o h1 h2).laid ha).more ext0_push
      · have := (List.getElem?_eq_some_iff.mp h2).1; have := s.len; omega
    · rcases get_push h1 with h1 | ⟨e1, f1⟩
      · have := (List.getElem?_eq_some_iff.mp h1).1; have := s.len; omega
      · subst f1 f2
        exact r
theorem Sim.push {a : Addr} {xs : List D} {vs : List V} (s : Sim K ρ S H) (ha : H a = none) (r : RDs ρ H xs vs) : Sim K (ρ ++ [a]) (S ++ [.lst xs]) (upd H a (.lst vs)) :=
  s.pushG ha ⟨vs, upd_same, r.mono (ext_newl ha)⟩
theorem get_self {α : Type} (l : List α) (a : α) : (l ++ [a])[l.length]? = some a := by
  rw [List.getElem?_append_right (Nat.le_refl _)]; simp
end
structure RO (ρ : List Addr) (H : Hp) (l : Lo) (σ : St) : Prop where
  len : l.length = σ.length
  get : ∀ (i : Nat) (d : D), l[i]? = some (some d) → ∃ v, σ[i]? = some (some v) ∧ RD ρ H d v
theorem RO.mono {ρ ρ' : List Addr} {H H' : Hp} {l : Lo} {σ : St} (r : RO ρ H l σ) (e : Ext ρ H ρ' H') : RO ρ' H' l σ :=
  ⟨r.len, fun i d h => let ⟨v, h1, h2⟩ := r.get i d h; ⟨v, h1, h2.mono e⟩⟩
theorem RO.set {ρ : List Addr} {H : Hp} {l : Lo} {σ : St} {d : D} {v : V} (r : RO ρ H l σ) (i : Nat) (h : RD ρ H d v) : RO ρ H (l.set i (some d)) (σ.set i (some v)) := by
  refine ⟨by simp [r.len], fun j x hj => ?_⟩
  by_cases hij : i = j
  · subst hij
    have hl : i < l.length := by have := (List.getElem?_eq_some_iff.mp hj).1; simpa using this
    rw [List.getElem?_set_self hl] at hj
    cases hj
    exact ⟨v, List.getElem?_set_self (by rw [← r.len]; exact hl), h⟩
  · rw [List.getElem?_set_ne hij] at hj
    rw [List.getElem?_set_ne hij]
    exact r.get j x hj
abbrev EM := Lo → Sto → Option (D × Sto)
abbrev TM := Lo → Sto → Option (Bool × Sto)
abbrev AM := Lo → Sto → Option (List D × Sto)
abbrev FM := List D → Sto → Option (D × Sto)
inductive Fl where
  | nx | bk | ct | rt (d : D)
abbrev SM := Lo → Sto → Option (Fl × Lo × Sto)
abbrev GM := D → Lo → Sto → Option (Lo × Sto)
abbrev GsM := List D → Lo → Sto → Option (Lo × Sto)
def Pv (K : PySem.W.Frag) (ρ : List Addr) (H : Hp) (v : D) (S : Sto) (Q : VK) : Prop := ∀ ρ' H' v', Ext ρ H ρ' H' → Sim K ρ' S H' → RD ρ' H' v v' → Q v' H'
theorem Pv.ext {K : PySem.W.Frag} {ρ ρ1 : List Addr} {H H1 : Hp} {v : D} {S : Sto} {Q : VK} (p : Pv K ρ H v S Q) (e : Ext ρ H ρ1 H1) : Pv K ρ1 H1 v S Q := fun ρ' H' v' e' s r => p ρ' H' v' (e.trans e') s r
def te (K : PySem.W.Frag) (m : EM) : TE := fun σ H Q => ∃ ρ l S v S', Sim K ρ S H ∧ RO ρ H l σ ∧ m l S = some (v, S') ∧ Pv K ρ H v S' Q
def tt (K : PySem.W.Frag) (m : TM) : TT := fun σ H Q => ∃ ρ l S v S', Sim K ρ S H ∧ RO ρ H l σ ∧ m l S = some (v, S') ∧ ∀ ρ' H', Ext ρ H ρ' H' → Sim K ρ' S' H' → Q v H'
def ta (K : PySem.W.Frag) (m : AM) : TA := fun σ H Q => ∃ ρ l S v S', Sim K ρ S H ∧ RO ρ H l σ ∧ m l S = some (v, S') ∧ ∀ ρ' H' vs, Ext ρ H ρ' H' → Sim K ρ' S' H' → RDs ρ' H' v vs → Q vs H'
def ends (ρ : List Addr) (H : Hp) (E : Ends) (σ : St) : Fl → Prop
  | .nx => E.nx σ H
  | .bk => E.bk σ H
  | .ct => E.ct σ H
  | .rt d => ∀ v, RD ρ H d v → E.rt v H
def ts (K : PySem.W.Frag) (m : SM) : TS := fun E σ H => ∃ ρ l S f l' S', Sim K ρ S H ∧ RO ρ H l σ ∧ m l S = some (f, l', S') ∧ ∀ ρ' H' σ', Ext ρ H ρ' H' → Sim K ρ' S' H' → RO ρ' H' l' σ' → ends ρ' H' E σ' f
def tg (K : PySem.W.Frag) (g : GM) : TG := fun v σ H Q => ∃ ρ l S d l' S', Sim K ρ S H ∧ RO ρ H l σ ∧ RD ρ H d v ∧ g d l S = some (l', S') ∧ ∀ ρ' H' σ', Ext ρ H ρ' H' → Sim K ρ' S' H' → RO ρ' H' l' σ' → Q σ' H'
def tgs (K : PySem.W.Frag) (g : GsM) : TGs := fun vs σ H Q => ∃ ρ l S ds l' S', Sim K ρ S H ∧ RO ρ H l σ ∧ RDs ρ H ds vs ∧ g ds l S = some (l', S') ∧ ∀ ρ' H' σ', Ext ρ H ρ' H' → Sim K ρ' S' H' → RO ρ' H' l' σ' → Q σ' H'
def PE3 (X : Cx) (e : Expr) (m : EM) : Prop := PE X e (te X.K m)
def PT3 (X : Cx) (e : Expr) (m : TM) : Prop := PT X e (tt X.K m)
def PW3 (X : Cx) (e : Expr) (m : TM) : Prop := PW X e (tt X.K m)
def PA3 (X : Cx) (es : List Expr) (m : AM) : Prop := PA X es (ta X.K m)
def PS3 (X : Cx) (st : Stmt) (m : SM) : Prop := PS X st (ts X.K m)
def PSs3 (X : Cx) (st : List Stmt) (m : SM) : Prop := PSs X st (ts X.K m)
def PG3 (X : Cx) (tg' : Expr) (m : GM) : Prop := PG X tg' (tg X.K m)
def PGs3 (X : Cx) (ts' : List Expr) (m : GsM) : Prop := PGs X ts' (tgs X.K m)
theorem PE.imp {X : Cx} {e : Expr} {t u : TE} (h : PE X e t) (i : ∀ σ H Q, u σ H Q → t σ H Q) : PE X e u := fun pins s σ H Q I q => h pins s σ H Q I (i _ _ _ q)
theorem PT.imp {X : Cx} {e : Expr} {t u : TT} (h : PT X e t) (i : ∀ σ H Q, u σ H Q → t σ H Q) : PT X e u := fun pins s σ H Q I q => h pins s σ H Q I (i _ _ _ q)
theorem PW.imp {X : Cx} {e : Expr} {t u : TT} (h : PW X e t) (i : ∀ σ H Q, u σ H Q → t σ H Q) : PW X e u := fun wh pins s σ H Q I q => h wh pins s σ H Q I (i _ _ _ q)
theorem PA.imp {X : Cx} {e : List Expr} {t u : TA} (h : PA X e t) (i : ∀ σ H Q, u σ H Q → t σ H Q) : PA X e u := fun pos pins s σ H Q I q => h pos pins s σ H Q I (i _ _ _ q)
theorem PS.imp {X : Cx} {e : Stmt} {t u : TS} (h : PS X e t) (i : ∀ E σ H, u E σ H → t E σ H) : PS X e u := fun pins s σ H Q I q => h pins s σ H Q I (i _ _ _ q)
theorem PSs.imp {X : Cx} {e : List Stmt} {t u : TS} (h : PSs X e t) (i : ∀ E σ H, u E σ H → t E σ H) : PSs X e u := fun pins s σ H Q I q => h pins s σ H Q I (i _ _ _ q)
theorem PG.imp {X : Cx} {e : Expr} {t u : TG} (h : PG X e t) (i : ∀ v σ H Q, u v σ H Q → t v σ H Q) : PG X e u := fun pins s σ H v w Q I r q => h pins s σ H v w Q I r (i _ _ _ _ q)
theorem PGs.imp {X : Cx} {e : List Expr} {t u : TGs} (h : PGs X e t) (i : ∀ v σ H Q, u v σ H Q → t v σ H Q) : PGs X e u := fun pins s σ H v w Q I r q => h pins s σ H v w Q I r (i _ _ _ _ q)
theorem bnd {α β : Type} {o : Option α} {f : α → Option β} {b : β} (h : o.bind f = some b) : ∃ a, o = some a ∧ f a = some b := Option.bind_eq_some_iff.mp h
def eVar (i : Nat) : EM := fun l S => match l[i]? with
  | some (some d) => some (d, S)
  | _ => none
def eC (d : D) : EM := fun _ S => some (d, S)
def eOp (f : D → D → Sto → Option (D × Sto)) (a b : EM) : EM := fun l S => (a l S).bind fun p => (b l p.2).bind fun q => f p.1 q.1 q.2
def eUn (f : D → Sto → Option (D × Sto)) (a : EM) : EM := fun l S => (a l S).bind fun p => f p.1 p.2
def aNil : AM := fun _ S => some ([], S)
def aCons (a : EM) (r : AM) : AM := fun l S => (a l S).bind fun p => (r l p.2).bind fun q => some (p.1 :: q.1, q.2)
def eCall (f : FM) (as : AM) : EM := fun l S => (as l S).bind fun p => f p.1 p.2
def tE (a : EM) : TM := fun l S => (a l S).bind fun p => match p.1 with
  | .bl b => some (b, p.2)
  | _ => none
def tAnd3 (a b : TM) : TM := fun l S => (a l S).bind fun p => if p.1 = true then b l p.2 else some (false, p.2)
def tOr3 (a b : TM) : TM := fun l S => (a l S).bind fun p => if p.1 = true then some (true, p.2) else b l p.2
def tNot3 (a : TM) : TM := fun l S => (a l S).bind fun p => some (!p.1, p.2)
def eAnd3 (a b : EM) : EM := fun l S => (a l S).bind fun p => match p.1 with
  | .bl true => b l p.2
  | .bl false => some (.bl false, p.2)
  | _ => none
def eOr3 (a b : EM) : EM := fun l S => (a l S).bind fun p => match p.1 with
  | .bl true => some (.bl true, p.2)
  | .bl false => b l p.2
  | _ => none
def eNot3 (a : EM) : EM := fun l S => (a l S).bind fun p => match p.1 with
  | .bl b => some (.bl (!b), p.2)
  | _ => none
def eIf3 (c : TM) (a b : EM) : EM := fun l S => (c l S).bind fun p => if p.1 = true then a l p.2 else b l p.2
def Op3 (K : PySem.W.Frag) (f : D → D → Sto → Option (D × Sto)) (r : R2) : Prop :=
  ∀ ρ S H x y x' y' v S' Q, Sim K ρ S H → RD ρ H x x' → RD ρ H y y' → f x y S = some (v, S') → Pv K ρ H v S' Q → r x' y' H Q
def Fn3 (K : PySem.W.Frag) (f : FM) (r : List V → Hp → VK → Prop) : Prop :=
  ∀ ρ S H xs vs v S' Q, Sim K ρ S H → RDs ρ H xs vs → f xs S = some (v, S') → Pv K ρ H v S' Q → r vs H Q
def Mt3 (K : PySem.W.Frag) (f : D → List D → Sto → Option (D × Sto)) (r : V → List V → Hp → VK → Prop) : Prop :=
  ∀ ρ S H x x' xs vs v S' Q, Sim K ρ S H → RD ρ H x x' → RDs ρ H xs vs → f x xs S = some (v, S') → Pv K ρ H v S' Q → r x' vs H Q
theorem te_op {K : PySem.W.Frag} {f : D → D → Sto → Option (D × Sto)} {r : R2} (h : Op3 K f r) {a b : EM} (σ : St) (H : Hp) (Q : VK) (q : te K (eOp f a b) σ H Q) : tOp r (te K a) (te K b) σ H Q := by
  obtain ⟨ρ, l, S, v, S', sim, ro, hm, p⟩ := q
  obtain ⟨⟨x, S1⟩, h1, hm⟩ := bnd hm
  obtain ⟨⟨y, S2⟩, h2, hm⟩ := bnd hm
  exact ⟨ρ, l, S, x, S1, sim, ro, h1, fun ρ1 H1 x' e1 s1 r1 => ⟨ρ1, l, S1, y, S2, s1, ro.mono e1, h2, fun ρ2 H2 y' e2 s2 r2 => h ρ2 S2 H2 x y x' y' v S' Q s2 (r1.mono e2) r2 hm (p.ext (e1.trans e2))⟩⟩
section
variable {X : Cx} {a b c : Expr} {es : List Expr} {ma mb : EM} {mA : AM} {pos : Pos}
theorem p3_var (i : Nat) {x : Str} (hN : X.N[i]? = some x := by rfl) (hv : Vis X.env.scope x := by first | exact Or.inl rfl | exact Or.inr (Or.inl rfl) | exact Or.inr (Or.inr rfl)) (hd : (x == ("__debug__" : Str)) = false := by decide)
    (hcd : (x == ("__classdict__" : Str)) = false := by decide) : PE3 X (.Name x pos) (eVar i) :=
  PE.imp (pe_var hN hv hd hcd) fun σ H Q ⟨ρ, l, S, v, S', sim, ro, hm, p⟩ => by
    unfold eVar at hm
    split at hm
    · rename_i d e
      cases hm
      obtain ⟨w, h1, h2⟩ := ro.get i _ e
      exact ⟨w, h1, p ρ H w (Ext.refl ..) sim h2⟩
    · cases hm
theorem te_c {K : PySem.W.Frag} {d : D} {v : V} (h : ∀ ρ H, RD ρ H d v) (σ : St) (H : Hp) (Q : VK) (q : te K (eC d) σ H Q) : tC v σ H Q := by
  obtain ⟨ρ, l, S, w, S', sim, ro, hm, p⟩ := q
  cases hm
  exact p ρ H v (Ext.refl ..) sim (h ρ H)
theorem p3_int {i j} : PE3 X (.Constant (.int i) j pos) (eC (.int i)) := PE.imp pe_int (te_c fun _ _ => .int i)
theorem p3_bl {i j} : PE3 X (.Constant (.bool i) j pos) (eC (.bl i)) := PE.imp pe_bl (te_c fun _ _ => .bl i)
theorem p3_non {j} : PE3 X (.Constant .none j pos) (eC .non) := PE.imp pe_non (te_c fun _ _ => .non)
theorem p3_globI {x : Str} {i : Int} {t : Tok} (hg : Gl X x) (hm : X.mg x = some (.int i t)) (hd : (x == ("__debug__" : Str)) = false := by decide) : PE3 X (.Name x pos) (eC (.int i)) :=
  PE.imp (pe_glob hg hm (v := .int i) ⟨t, rfl⟩ hd) (te_c fun _ _ => .int i)
theorem p3_op {op : Operator} {f : D → D → Sto → Option (D × Sto)} {r : R2} (ho : OpR X (binaryOp op) r) (h3 : Op3 X.K f r) (ha : PE3 X a ma) (hb : PE3 X b mb) : PE3 X (.BinOp a op b pos) (eOp f ma mb) := PE.imp (pe_op ho ha hb) (te_op h3)
theorem p3_cmp {op : CmpOp} {f : D → D → Sto → Option (D × Sto)} {r : R2} (ho : OpR X (compareOp op) r) (h3 : Op3 X.K f r) (ha : PE3 X a ma) (hb : PE3 X b mb) (hm : behindInMarks op b = false) : PE3 X (.Compare a [op] [b] pos) (eOp f ma mb) := PE.imp (pe_cmpR ho ha hb hm) (te_op h3)
theorem tt_e {K : PySem.W.Frag} {m : EM} (σ : St) (H : Hp) (Q : Bool → Hp → Prop) (q : tt K (tE m) σ H Q) : te K m σ H fun x H' => ∃ k, x = .bl k ∧ Q k H' := by
  obtain ⟨ρ, l, S, v, S', sim, ro, hm, p⟩ := q
  obtain ⟨⟨x, S1⟩, h1, hm⟩ := bnd hm
  refine ⟨ρ, l, S, x, S1, sim, ro, h1, fun ρ' H' v' e s r => ?_⟩
  cases r with
  | bl k => cases hm; exact ⟨_, rfl, p ρ' H' e s⟩
  | _ => cases hm
theorem t3_cmp {op : CmpOp} {f : D → D → Sto → Option (D × Sto)} {r : R2} (ho : OpR X (compareOp op) r) (h3 : Op3 X.K f r) (ha : PE3 X a ma) (hb : PE3 X b mb) (hm : behindInMarks op b = false) : PT3 X (.Compare a [op] [b] pos) (tE (eOp f ma mb)) :=
  PT.imp (pt_cmpR ho ha hb hm) fun σ H Q q => te_op h3 σ H _ (tt_e σ H Q q)
theorem t3_val {m : EM} (h : PE3 X a m) (he : ∀ whole, isTrue a X.env whole = (do let v ← whole; standAt a.pos; holding [v] (truthy v)) := by intro _; rfl) : PT3 X a (tE m) :=
  PT.imp (pt_val h he) fun σ H Q q => tt_e σ H Q q
variable {t u : TM} {rest : List Expr}
theorem tt_and {K : PySem.W.Frag} (σ : St) (H : Hp) (Q : Bool → Hp → Prop) (q : tt K (tAnd3 t u) σ H Q) : L2.tAnd (tt K t) (tt K u) σ H Q := by
  obtain ⟨ρ, l, S, v, S', sim, ro, hm, p⟩ := q
  obtain ⟨⟨x, S1⟩, h1, hm⟩ := bnd hm
  refine ⟨ρ, l, S, x, S1, sim, ro, h1, fun ρ1 H1 e1 s1 => ?_⟩
  cases x with
  | true => exact iteT ⟨ρ1, l, S1, v, S', s1, ro.mono e1, hm, fun ρ2 H2 e2 s2 => p ρ2 H2 (e1.trans e2) s2⟩
  | false => cases hm; exact iteF (p ρ1 H1 e1 s1)
theorem tt_or {K : PySem.W.Frag} (σ : St) (H : Hp) (Q : Bool → Hp → Prop) (q : tt K (tOr3 t u) σ H Q) : L2.tOr (tt K t) (tt K u) σ H Q := by
  obtain ⟨ρ, l, S, v, S', sim, ro, hm, p⟩ := q
  obtain ⟨⟨x, S1⟩, h1, hm⟩ := bnd hm
  refine ⟨ρ, l, S, x, S1, sim, ro, h1, fun ρ1 H1 e1 s1 => ?_⟩
  cases x with
  | false => exact iteF ⟨ρ1, l, S1, v, S', s1, ro.mono e1, hm, fun ρ2 H2 e2 s2 => p ρ2 H2 (e1.trans e2) s2⟩
  | true => cases hm; exact iteT (p ρ1 H1 e1 s1)
theorem w3_and1 (ha : PT3 X a t) : PW3 X (.BoolOp .And [a] pos) t := pw_and1 ha
theorem w3_or1 (ha : PT3 X a t) : PW3 X (.BoolOp .Or [a] pos) t := pw_or1 ha
theorem w3_and (ha : PT3 X a t) (hb : PW3 X (.BoolOp .And (b :: rest) pos) u) : PW3 X (.BoolOp .And (a :: b :: rest) pos) (tAnd3 t u) := PW.imp (pw_and ha hb) tt_and
theorem w3_or (ha : PT3 X a t) (hb : PW3 X (.BoolOp .Or (b :: rest) pos) u) : PW3 X (.BoolOp .Or (a :: b :: rest) pos) (tOr3 t u) := PW.imp (pw_or ha hb) tt_or
theorem t3_w (h : PW3 X a t) : PT3 X a t := PW.pt h
theorem p3_one {op} (h : PE3 X a ma) : PE3 X (.BoolOp op [a] pos) ma := pe_one h
theorem p3_and (ha : PE3 X a ma) (hb : PE3 X (.BoolOp .And (b :: rest) pos) mb) : PE3 X (.BoolOp .And (a :: b :: rest) pos) (eAnd3 ma mb) := PE.imp (pe_and ha hb) fun σ H Q ⟨ρ, l, S, v, S', sim, ro, hm, p⟩ => by
  obtain ⟨⟨x, S1⟩, h1, hm⟩ := bnd hm
  refine ⟨ρ, l, S, x, S1, sim, ro, h1, fun ρ1 H1 x' e1 s1 r1 => ?_⟩
  cases r1 with
  | bl k =>
    refine ⟨k, rfl, ?_⟩
    cases k with
    | true => exact iteT ⟨ρ1, l, S1, v, S', s1, ro.mono e1, hm, p.ext e1⟩
    | false => cases hm; exact iteF (p ρ1 H1 _ e1 s1 (.bl false))
  | _ => cases hm
theorem p3_ifE {mc : TM} (hc : PT3 X c mc) (ha : PE3 X a ma) (hb : PE3 X b mb) : PE3 X (.IfExp c a b pos) (eIf3 mc ma mb) := PE.imp (pe_ifExp hc ha hb) fun σ H Q ⟨ρ, l, S, v, S', sim, ro, hm, p⟩ => by
  obtain ⟨⟨x, S1⟩, h1, hm⟩ := bnd hm
  refine ⟨ρ, l, S, x, S1, sim, ro, h1, fun ρ1 H1 e1 s1 => ?_⟩
  cases x with
  | true => exact iteT ⟨ρ1, l, S1, v, S', s1, ro.mono e1, hm, p.ext e1⟩
  | false => exact iteF ⟨ρ1, l, S1, v, S', s1, ro.mono e1, hm, p.ext e1⟩
theorem a3_nil : PA3 X [] aNil := PA.imp pa_nil fun σ H Q ⟨ρ, l, S, v, S', sim, ro, hm, p⟩ => by
  cases hm
  exact p ρ H [] (Ext.refl ..) sim .nil
theorem a3_cons (ha : PE3 X a ma) (hr : PA3 X es mA) (hs : starEach (a :: es) X.env = (false, eval a X.env) :: starEach es X.env := by rfl) : PA3 X (a :: es) (aCons ma mA) := PA.imp (pa_cons ha hr hs) fun σ H Q ⟨ρ, l, S, v, S', sim, ro, hm, p⟩ => by
  obtain ⟨⟨x, S1⟩, h1, hm⟩ := bnd hm
  obtain ⟨⟨y, S2⟩, h2, hm⟩ := bnd hm
  cases hm
  exact ⟨ρ, l, S, x, S1, sim, ro, h1, fun ρ1 H1 x' e1 s1 r1 => ⟨ρ1, l, S1, y, _, s1, ro.mono e1, h2, fun ρ2 H2 vs e2 s2 r2 => p ρ2 H2 _ (e1.trans e2) s2 (.cons (r1.mono e2) r2)⟩⟩
def fTup : FM := fun xs S => if xs.length ≤ sizeLine then some (.tup xs, S) else none
def fLst : FM := fun xs S => if xs.length ≤ sizeLine then some (.ref S.length, S ++ [.lst xs]) else none
theorem ite_some {α : Type} {c : Prop} [Decidable c] {a b : α} (h : (if c then some a else none) = some b) : c ∧ a = b := by
  by_cases hc : c
  · rw [if_pos hc] at h; exact ⟨hc, Option.some.inj h⟩
  · rw [if_neg hc] at h; cases h
theorem new_tup {K : PySem.W.Frag} {ρ : List Addr} {S : Sto} {H : Hp} {xs : List D} {vs : List V} {Q : VK} (sim : Sim K ρ S H) (r : RDs ρ H xs vs) (p : Pv K ρ H (.tup xs) S Q) : ∀ a, H a = none → Q (.ref a) (upd H a (.tup vs)) := fun a ha =>
  p ρ _ _ (ext_new ha) (sim.laid ha) (.tup upd_same (r.mono (ext_new ha)))
theorem new_lst {K : PySem.W.Frag} {ρ : List Addr} {S : Sto} {H : Hp} {xs : List D} {vs : List V} {Q : VK} (sim : Sim K ρ S H) (r : RDs ρ H xs vs) (p : Pv K ρ H (.ref S.length) (S ++ [.lst xs]) Q) : ∀ a, H a = none → Q (.ref a) (upd H a (.lst vs)) := fun a ha =>
  p (ρ ++ [a]) _ _ (ext_newl ha) (sim.push ha r) (.ref (by rw [← sim.len]; exact get_self ρ a))
theorem p3_tup {x1} (h : PA3 X es mA) : PE3 X (.Tuple es x1 pos) (eCall fTup mA) := PE.imp (pe_tup h) fun σ H Q ⟨ρ, l, S, v, S', sim, ro, hm, p⟩ => by
  obtain ⟨⟨x, S1⟩, h1, hm⟩ := bnd hm
  obtain ⟨hz, e⟩ := ite_some hm
  cases e
  exact ⟨ρ, l, S, x, _, sim, ro, h1, fun ρ1 H1 vs e1 s1 r1 => ⟨by rw [← r1.length]; exact hz, new_tup s1 r1 (p.ext e1)⟩⟩
theorem p3_lst (h : PA3 X es mA) : PE3 X (.List es pos) (eCall fLst mA) := PE.imp (pe_lst h) fun σ H Q ⟨ρ, l, S, v, S', sim, ro, hm, p⟩ => by
  obtain ⟨⟨x, S1⟩, h1, hm⟩ := bnd hm
  obtain ⟨hz, e⟩ := ite_some hm
  cases e
  exact ⟨ρ, l, S, x, _, sim, ro, h1, fun ρ1 H1 vs e1 s1 r1 => ⟨by rw [← r1.length]; exact hz, new_lst s1 r1 (p.ext e1)⟩⟩
theorem te_call {K : PySem.W.Frag} {f : FM} {r : List V → Hp → VK → Prop} (h3 : Fn3 K f r) (σ : St) (H : Hp) (Q : VK) (q : te K (eCall f mA) σ H Q) : tCB r (ta K mA) σ H Q := by
  obtain ⟨ρ, l, S, v, S', sim, ro, hm, p⟩ := q
  obtain ⟨⟨x, S1⟩, h1, hm⟩ := bnd hm
  exact ⟨ρ, l, S, x, S1, sim, ro, h1, fun ρ1 H1 vs e1 s1 r1 => h3 ρ1 S1 H1 x vs v S' Q s1 r1 hm (p.ext e1)⟩
theorem p3_callB {x : Str} {p : Pos} {id : String} {f : FM} {r : List V → Hp → VK → Prop} (hc : CallR X (.builtin id) r) (h3 : Fn3 X.K f r) (hg : Gl X x) (hm : X.mg x = none) (hv : bootBuiltins x = some (.builtin id)) (ha : PA3 X (a :: es) mA) (hn : x ≠ "__name__" := by decide) (hdb : (x == ("__debug__" : Str)) = false := by decide)
    (he : starEach (a :: es) X.env = (false, eval a X.env) :: starEach es X.env := by rfl) (hpl : (backTo pos (starEach es X.env)).any (·.1) = false := by rfl) : PE3 X (.Call (.Name x p) (a :: es) [] pos) (eCall f mA) :=
  PE.imp (pe_callB hc hg hm hv ha hn hdb he hpl) (te_call h3)
theorem p3_callTy {x : Str} {p : Pos} {T : String} {f : FM} {r : List V → Hp → VK → Prop} (hc : CallR X (.type T) r) (h3 : Fn3 X.K f r) (hg : Gl X x) (hm : X.mg x = none) (hv : bootBuiltins x = some (.type T)) (ha : PA3 X (a :: es) mA) (hn : x ≠ "__name__" := by decide) (hdb : (x == ("__debug__" : Str)) = false := by decide)
    (he : starEach (a :: es) X.env = (false, eval a X.env) :: starEach es X.env := by rfl) (hpl : (backTo pos (starEach es X.env)).any (·.1) = false := by rfl) : PE3 X (.Call (.Name x p) (a :: es) [] pos) (eCall f mA) :=
  PE.imp (pe_callTy hc hg hm hv ha hn hdb he hpl) (te_call h3)
end
end L3
namespace L3
open PySem PySem.Spec PyProof.Rows L2
def oI (C : Int → Int → Bool) (g : Int → Int → D) : D → D → Sto → Option (D × Sto)
  | .int i, .int j, S => if C i j = true then some (g i j, S) else none
  | _, _, _ => none
def oI0 (g : Int → Int → D) : D → D → Sto → Option (D × Sto)
  | .int i, .int j, S => some (g i j, S)
  | _, _, _ => none
theorem op3_I {K : PySem.W.Frag} {C : Int → Int → Bool} {C' : Int → Int → Prop} {g : Int → Int → D} {g' : Int → Int → V} (hC : ∀ i j, C i j = true → C' i j) (hg : ∀ ρ H i j, RD ρ H (g i j) (g' i j)) : Op3 K (oI C g) (rI C' g') := by
  intro ρ S H x y x' y' v S' Q sim rx ry h p
  unfold oI at h
  split at h
  · rename_i i j
    cases rx; cases ry
    obtain ⟨hc, e⟩ := ite_some h
    cases e
    exact ⟨i, j, rfl, rfl, hC i j hc, p ρ H _ (Ext.refl ..) sim (hg ρ H i j)⟩
  · cases h
theorem op3_I0 {K : PySem.W.Frag} {g : Int → Int → D} {g' : Int → Int → V} (hg : ∀ ρ H i j, RD ρ H (g i j) (g' i j)) : Op3 K (oI0 g) (rI0 g') := by
  intro ρ S H x y x' y' v S' Q sim rx ry h p
  unfold oI0 at h
  split at h
  · rename_i i j
    cases rx; cases ry
    cases h
    exact ⟨i, j, rfl, rfl, p ρ H _ (Ext.refl ..) sim (hg ρ H i j)⟩
  · cases h
theorem Op3.or {K : PySem.W.Frag} {f : D → D → Sto → Option (D × Sto)} {g : D → D → Sto → Option (D × Sto)} {r r' : R2} (h : Op3 K f r) (h' : Op3 K g r') : Op3 K (fun x y S => match f x y S with | some v => some v | none => g x y S) (fun x y H Q => r x y H Q ∨ r' x y H Q) := by
  intro ρ S H x y x' y' v S' Q sim rx ry hm p
  dsimp only at hm
  cases e : f x y S with
  | some w => rw [e] at hm; cases hm; exact .inl (h ρ S H x y x' y' _ _ Q sim rx ry e p)
  | none => rw [e] at hm; exact .inr (h' ρ S H x y x' y' _ _ Q sim rx ry hm p)
abbrev dSub := oI0 fun i j => .int (i - j)
abbrev dDiv := oI (fun i j => decide (0 < j ∧ j < 1073741824)) fun i j => .int (i / j)
abbrev dMod := oI (fun i j => decide (0 < j)) fun i j => .int (i % j)
abbrev dPow := oI (fun i j => decide (0 ≤ j ∧ j ≤ 1000000 ∧ i.natAbs < 2 ^ 64)) fun i j => .int (i ^ j.toNat)
abbrev dLt := oI0 fun i j => .bl (decide (i < j))
abbrev dLe := oI0 fun i j => .bl (decide (i ≤ j))
abbrev dGt := oI0 fun i j => .bl (decide (j < i))
abbrev dGe := oI0 fun i j => .bl (decide (j ≤ i))
section
variable {X : Cx} {a b : Expr} {ma mb : EM} {pos : Pos}
theorem p3_sub (ha : PE3 X a ma) (hb : PE3 X b mb) : PE3 X (.BinOp a .Sub b pos) (eOp dSub ma mb) := p3_op op_sub (op3_I0 fun _ _ _ _ => .int _) ha hb
theorem p3_div (ha : PE3 X a ma) (hb : PE3 X b mb) : PE3 X (.BinOp a .FloorDiv b pos) (eOp dDiv ma mb) := p3_op op_fdiv (op3_I (fun i j h => by first | (unfold CMul; exact of_decide_eq_true h) | (unfold CDiv; exact of_decide_eq_true h) | (unfold CPow; exact of_decide_eq_true h) | exact of_decide_eq_true h) fun _ _ _ _ => .int _) ha hb
theorem p3_mod (ha : PE3 X a ma) (hb : PE3 X b mb) : PE3 X (.BinOp a .Mod b pos) (eOp dMod ma mb) := p3_op op_mod (op3_I (fun i j h => by first | (unfold CMul; exact of_decide_eq_true h) | (unfold CDiv; exact of_decide_eq_true h) | (unfold CPow; exact of_decide_eq_true h) | exact of_decide_eq_true h) fun _ _ _ _ => .int _) ha hb
theorem p3_pow (ha : PE3 X a ma) (hb : PE3 X b mb) : PE3 X (.BinOp a .Pow b pos) (eOp dPow ma mb) := p3_op op_pow (op3_I (fun i j h => by first | (unfold CMul; exact of_decide_eq_true h) | (unfold CDiv; exact of_decide_eq_true h) | (unfold CPow; exact of_decide_eq_true h) | exact of_decide_eq_true h) fun _ _ _ _ => .int _) ha hb
theorem t3_lt (ha : PE3 X a ma) (hb : PE3 X b mb) : PT3 X (.Compare a [.Lt] [b] pos) (tE (eOp dLt ma mb)) := t3_cmp op_lt (op3_I0 fun _ _ _ _ => .bl _) ha hb (nomark b)
theorem t3_le (ha : PE3 X a ma) (hb : PE3 X b mb) : PT3 X (.Compare a [.LtE] [b] pos) (tE (eOp dLe ma mb)) := t3_cmp op_le (op3_I0 fun _ _ _ _ => .bl _) ha hb (nomark b)
theorem t3_gt (ha : PE3 X a ma) (hb : PE3 X b mb) : PT3 X (.Compare a [.Gt] [b] pos) (tE (eOp dGt ma mb)) := t3_cmp op_gt (op3_I0 fun _ _ _ _ => .bl _) ha hb (nomark b)
theorem t3_ge (ha : PE3 X a ma) (hb : PE3 X b mb) : PT3 X (.Compare a [.GtE] [b] pos) (tE (eOp dGe ma mb)) := t3_cmp op_ge (op3_I0 fun _ _ _ _ => .bl _) ha hb (nomark b)
end
def sEq : D → D → Option Bool
  | .non, .non => some true | .non, .int _ => some false | .int _, .non => some false | .non, .bl _ => some false | .bl _, .non => some false | .non, .str _ => some false | .str _, .non => some false
  | .int i, .int j => some (decide (i = j)) | .bl i, .bl j => some (decide (i = j)) | .str i, .str j => some (decide (i = j))
  | .int _, .str _ => some false | .str _, .int _ => some false | .bl _, .str _ => some false | .str _, .bl _ => some false
  | _, _ => none
def dEq : D → D → Sto → Option (D × Sto) := fun x y S => (sEq x y).bind fun b => some (.bl b, S)
def dNe : D → D → Sto → Option (D × Sto) := fun x y S => (sEq x y).bind fun b => some (.bl (!b), S)
theorem sEq_ok {ρ : List Addr} {H : Hp} {x y : D} {x' y' : V} {b : Bool} (rx : RD ρ H x x') (ry : RD ρ H y y') (h : sEq x y = some b) : scal x' y' = true ∧ decide (x' = y') = b := by
  cases rx <;> cases ry <;> first
    | (unfold sEq at h; cases h; exact ⟨rfl, by simp⟩)
    | (unfold sEq at h; cases h; exact ⟨rfl, by simp; rfl⟩)
    | (unfold sEq at h; cases h)
theorem op3_eq {K : PySem.W.Frag} : Op3 K dEq rEq := by
  intro ρ S H x y x' y' v S' Q sim rx ry h p
  obtain ⟨b, h1, h⟩ := bnd h
  cases h
  obtain ⟨h2, h3⟩ := sEq_ok rx ry h1
  exact ⟨h2, by rw [h3]; exact p ρ H _ (Ext.refl ..) sim (.bl b)⟩
theorem op3_ne {K : PySem.W.Frag} : Op3 K dNe rNe := by
  intro ρ S H x y x' y' v S' Q sim rx ry h p
  obtain ⟨b, h1, h⟩ := bnd h
  cases h
  obtain ⟨h2, h3⟩ := sEq_ok rx ry h1
  exact ⟨h2, by rw [h3]; exact p ρ H _ (Ext.refl ..) sim (.bl _)⟩
def isNon : D → Bool
  | .non => true
  | _ => false
def dIs : D → D → Sto → Option (D × Sto)
  | x, .non, S => some (.bl (isNon x), S)
  | _, _, _ => none
def dIsNot : D → D → Sto → Option (D × Sto)
  | x, .non, S => some (.bl (!isNon x), S)
  | _, _, _ => none
theorem isNon_ok {ρ : List Addr} {H : Hp} {x : D} {x' : V} (r : RD ρ H x x') : decide (x' = .non) = isNon x := by
  cases r <;> simp [isNon]
theorem op3_is {K : PySem.W.Frag} : Op3 K dIs (fun x y H Q => y = .non ∧ Q (.bl (decide (x = .non))) H) := by
  intro ρ S H x y x' y' v S' Q sim rx ry h p
  unfold dIs at h
  split at h
  · cases h; cases ry
    exact ⟨rfl, by rw [isNon_ok rx]; exact p ρ H _ (Ext.refl ..) sim (.bl _)⟩
  · cases h
theorem op3_isnot {K : PySem.W.Frag} : Op3 K dIsNot (fun x y H Q => y = .non ∧ Q (.bl (!decide (x = .non))) H) := by
  intro ρ S H x y x' y' v S' Q sim rx ry h p
  unfold dIsNot at h
  split at h
  · cases h; cases ry
    exact ⟨rfl, by rw [isNon_ok rx]; exact p ρ H _ (Ext.refl ..) sim (.bl _)⟩
  · cases h
section
variable {X : Cx} {a b : Expr} {ma mb : EM} {pos : Pos}
theorem p3_ne (ha : PE3 X a ma) (hb : PE3 X b mb) : PE3 X (.Compare a [.NotEq] [b] pos) (eOp dNe ma mb) := p3_cmp op_ne op3_ne ha hb (nomark b)
theorem p3_isnot (ha : PE3 X a ma) (hb : PE3 X b mb) : PE3 X (.Compare a [.IsNot] [b] pos) (eOp dIsNot ma mb) := p3_cmp op_notN op3_isnot ha hb (nomark b)
theorem t3_eq (ha : PE3 X a ma) (hb : PE3 X b mb) : PT3 X (.Compare a [.Eq] [b] pos) (tE (eOp dEq ma mb)) := t3_cmp op_eq op3_eq ha hb (nomark b)
theorem t3_ne (ha : PE3 X a ma) (hb : PE3 X b mb) : PT3 X (.Compare a [.NotEq] [b] pos) (tE (eOp dNe ma mb)) := t3_cmp op_ne op3_ne ha hb (nomark b)
theorem t3_is (ha : PE3 X a ma) (hb : PE3 X b mb) : PT3 X (.Compare a [.Is] [b] pos) (tE (eOp dIs ma mb)) := t3_cmp op_isN op3_is ha hb (nomark b)
theorem t3_isnot (ha : PE3 X a ma) (hb : PE3 X b mb) : PT3 X (.Compare a [.IsNot] [b] pos) (tE (eOp dIsNot ma mb)) := t3_cmp op_notN op3_isnot ha hb (nomark b)
end
def dIx : D → D → Sto → Option (D × Sto)
  | .tup xs, .int i, S => (atI xs i).bind fun v => some (v, S)
  | .ref n, .int i, S => (lstOf S n).bind fun xs => (atI xs i).bind fun v => some (v, S)
  | _, _, _ => none
theorem atI_rd {ρ : List Addr} {H : Hp} {xs : List D} {vs : List V} {i : Int} {x : D} (r : RDs ρ H xs vs) (h : atI xs i = some x) : ∃ v, atI vs i = some v ∧ RD ρ H x v := by
  unfold atI at h ⊢
  rw [← r.length]
  cases e : ixN xs.length i with
  | none => rw [e] at h; cases h
  | some j =>
    rw [e] at h
    exact r.get (i := j) h
theorem op3_ix {K : PySem.W.Frag} : Op3 K dIx (rIx K) := by
  intro ρ S H x y x' y' v S' Q sim rx ry h p
  unfold dIx at h
  split at h
  · cases ry
    obtain ⟨w, h1, h⟩ := bnd h
    cases h
    cases rx with
    | tup ha r =>
      obtain ⟨u, h2, r2⟩ := atI_rd r h1
      exact .inr (.inl ⟨_, _, _, u, rfl, rfl, SqT.of ha, h2, p ρ H u (Ext.refl ..) sim r2⟩)
  · cases ry
    obtain ⟨xs, h0, h⟩ := bnd h
    obtain ⟨w, h1, h⟩ := bnd h
    cases h
    cases rx with
    | ref hn =>
      obtain ⟨a, vs, ha, sq, r⟩ := sim.lstOf h0
      rw [ha] at hn; cases hn
      obtain ⟨u, h2, r2⟩ := atI_rd r h1
      exact .inl ⟨_, _, _, u, rfl, rfl, sq, h2, p ρ H u (Ext.refl ..) sim r2⟩
  · cases h
section
variable {X : Cx} {a b : Expr} {ma mb : EM} {pos : Pos}
end
abbrev OM := Lo → Sto → Option (Option Int × Sto)
def oNone : OM := fun _ S => some (none, S)
def oSome (m : EM) : OM := fun l S => (m l S).bind fun p => match p.1 with
  | .int i => some (some i, p.2)
  | _ => none
def cutD (xs : List D) (lo hi : Option Int) : List D := (xs.drop (HT.sIx xs.length 0 lo)).take (HT.sIx xs.length xs.length hi - HT.sIx xs.length 0 lo)
def tO (K : PySem.W.Frag) (m : OM) : TO := fun σ H Q => ∃ ρ l S v S', Sim K ρ S H ∧ RO ρ H l σ ∧ m l S = some (v, S') ∧ ∀ ρ' H', Ext ρ H ρ' H' → Sim K ρ' S' H' → Q v H'
def PO3 (X : Cx) (e : Option Expr) (m : OM) : Prop := PO X e (tO X.K m)
section
variable {X : Cx} {a b : Expr} {ma mb : EM} {pos p2 : Pos} {lo hi : Option Expr} {ml mh : OM}
theorem PO.imp {e : Option Expr} {t u : TO} (h : PO X e t) (i : ∀ σ H Q, u σ H Q → t σ H Q) : PO X e u := fun pins s σ H Q I q => h pins s σ H Q I (i _ _ _ q)
theorem o3_none : PO3 X none oNone := PO.imp po_none fun σ H Q ⟨ρ, l, S, v, S', sim, ro, hm, p⟩ => by
  cases hm
  exact p ρ H (Ext.refl ..) sim
theorem o3_some (h : PE3 X a ma) : PO3 X (some a) (oSome ma) := PO.imp (po_some h) fun σ H Q ⟨ρ, l, S, v, S', sim, ro, hm, p⟩ => by
  obtain ⟨⟨x, S1⟩, h1, hm⟩ := bnd hm
  refine ⟨ρ, l, S, x, S1, sim, ro, h1, fun ρ1 H1 x' e1 s1 r1 => ?_⟩
  cases r1 with
  | int i => cases hm; exact ⟨i, rfl, p ρ1 H1 e1 s1⟩
  | _ => cases hm
end
end L3
namespace HT
open PySem PyProof.Rows
section
variable {prog : Program} {w : World} {A : Around} {E : Value → Shared → Prop} {s : Shared}
theorem getItem_tuple_whole {t sl : Addr} {items : Array Value} {vl vu : Value} {lo hi : Option Int} {Q : Value → Shared → Prop} (ht : IsTup s.heap t items) (hs : s.heap.IsSliceOf sl vl vu .none) (pl : IsPart vl lo) (pu : IsPart vu hi)
    (hw : sIx items.size 0 lo = 0 ∧ sIx items.size items.size hi = items.size)
    (h : Q (.ref t) s) : wpAny (model prog w) A (getItem (.ref t) (.ref sl)) Q E s := by
  obtain ⟨os, hos, hcs, hds⟩ := id hs
  have hTs : s.TypeIs (.ref sl) "slice" := ⟨os, hos, hcs⟩
  unfold getItem
  try with_reducible refine wpAny_holding ?_
  first | refine wpAny_bind (wpAny_pure ?_) | skip
  refine wpAny_bind (wpAny_sequenceKey ht.typeIs (by decide) ?_)
  refine wpAny_bind (wpAny_callSpecial?_slot (name := Str.ofString "__getitem__") ht.typeIs PyProof.Rows.slot_tuple_getitem
    (wpAny_call_entry PyProof.Rows.slot_tuple_getitem ht.typeIs entry_tuple_getitem ?_ (args_tuple_getitem _ _)))
  show wpAny _ _ (Builtin.Tuple.tupleItemsOf (.ref t) >>= _) _ _ s
  refine wpAny_bind (tupleItemsOf_ ht ?_)
  refine wpAny_bind (wpAny_typeOf hTs ?_)
  rw [if_pos (by decide)]
  refine wpAny_bind (sliceApplied_gen hs pl pu ?_)
  have hyes : ((((sIx items.size 0 lo : Nat) : Int) == 0 && (1 : Int) == 1 && (sIx items.size items.size hi - sIx items.size 0 lo) == items.size) = true) := by
    rw [hw.1, hw.2]; simp
  show wpAny _ _ (if (((sIx items.size 0 lo : Nat) : Int) == 0 && (1 : Int) == 1 && (sIx items.size items.size hi - sIx items.size 0 lo) == items.size) = true then _ else _) _ _ s
  rw [if_pos hyes]
  unfold Builtin.Tuple.tupleIsExact
  refine wpAny_bind (wpAny_bind (wpAny_typeOf ht.typeIs (wpAny_pure ?_)))
  rw [if_pos (by decide)]
  exact wpAny_bind (wpAny_rule (wpAny_bind (wpAny_pure (wpAny_pure ⟨_, rfl, wpAny_pure h⟩))))
end
end HT
namespace L3
open PySem PySem.Spec PyProof.Rows L2
section
variable {X : Cx} {a b : Expr} {ma mb : EM} {pos p2 : Pos} {lo hi : Option Expr} {ml mh : OM}
def rSlW (K : PySem.W.Frag) : V → Option Int → Option Int → Hp → VK → Prop := fun x lo hi H Q => ∃ a xs, x = .ref a ∧ SqT K H a xs ∧
  (HT.sIx xs.length 0 lo = 0 ∧ HT.sIx xs.length xs.length hi = xs.length) ∧ Q (.ref a) H
theorem sl_tupW : SlR X (rSlW X.K) := by
  intro pins s σ H x v vl vu lo hi sl Q I rx hs pl pu h
  obtain ⟨a, xs, rfl, hx, hw, q⟩ := h
  cases rx
  obtain ⟨its, r, ht, hz⟩ := I.tuple hx
  have hlen : its.toArray.size = xs.length := by rw [List.size_toArray]; exact r.length.symm
  refine ⟨"tuple", _, PyProof.Rows.slot_tuple_getitem.lookup, ht.typeIs, ?_⟩
  exact HT.getItem_tuple_whole ht hs pl pu (by rw [hlen]; exact hw) ⟨.ref a, H, I, rfl, q⟩
theorem cut_whole (xs : List D) (lo hi : Option Int) (h : HT.sIx xs.length 0 lo = 0 ∧ HT.sIx xs.length xs.length hi = xs.length) : cutD xs lo hi = xs := by
  unfold cutD; rw [h.1, h.2]; simp
end
def dCatT : D → D → Sto → Option (D × Sto)
  | .tup xs, .tup ys, S => if xs.length + ys.length ≤ sizeLine then some (.tup (xs ++ ys), S) else none
  | _, _, _ => none
def rCatT0 (K : PySem.W.Frag) : R2 := fun x y H Q => ∃ a b ys, x = .ref a ∧ y = .ref b ∧ SqT K H a [] ∧ SqT K H b ys ∧ Q (.ref b) H
theorem op_catT0 {X : Cx} : OpR X (binaryOp .Add) (rCatT0 X.K) := by
  intro pins s σ H x y v u Q I rx ry h
  obtain ⟨a, b, ys, rfl, rfl, ha, hb, q⟩ := h
  cases rx
  cases ry
  obtain ⟨its, r1, p1, _⟩ := I.tuple ha
  obtain ⟨its2, r2, p2, _⟩ := I.tuple hb
  cases r1
  obtain ⟨⟨cls, dd, data, sl⟩, ho, hc, n, hd⟩ := id p1
  obtain ⟨⟨cls2, dd2, data2, sl2⟩, ho2, hc2, n2, hd2⟩ := id p2
  simp only at hc hd hc2 hd2
  subst hc hd hc2 hd2
  exact concat_meets ⟨_, ho, rfl⟩ ⟨_, ho2, rfl⟩ noFill_tuple_add seq_tuple_add PySem.F.slot_tuple_add PySem.F.entry_tuple_add (PySem.F.args_tuple_add_2 _ _)
      (tuple_addW0 a b ([] : List Value).toArray its2.toArray n n2 dd dd2 sl sl2 (by simp)) ⟨ho, ho2, ⟨.ref b, H, I, rfl, q⟩⟩
theorem op3_catT {K : PySem.W.Frag} : Op3 K dCatT (fun x y H Q => rCatT K x y H Q ∨ rCatT0 K x y H Q) := by
  intro ρ S H x y x' y' v S' Q sim rx ry h p
  unfold dCatT at h
  split at h
  · obtain ⟨hz, e⟩ := ite_some h
    cases e
    cases rx with
    | @tup xs a vs ha r =>
      cases ry with
      | @tup ys b ws hb q =>
        cases r with
        | nil => exact .inr ⟨a, b, ws, rfl, rfl, SqT.of ha, SqT.of hb, p ρ H _ (Ext.refl ..) sim (.tup hb q)⟩
        | cons r1 r2 =>
          refine .inl ⟨a, b, _, ws, rfl, rfl, SqT.of ha, SqT.of hb, by simp, by rw [← (RDs.cons r1 r2).length, ← q.length]; exact hz, fun e => ?_, fun _ => ?_⟩
          · subst e
            cases q
            rw [List.append_nil] at p
            exact p ρ H _ (Ext.refl ..) sim (.tup ha (.cons r1 r2))
          · exact new_tup sim ((RDs.cons r1 r2).append q) p
  · cases h
section
variable {X : Cx} {a b : Expr} {ma mb : EM} {pos : Pos}
end
end L3
namespace L3
open PySem PySem.Spec PyProof.Rows L2
def fLen : FM
  | [.tup xs], S => some (.int xs.length, S)
  | [.ref n], S => (lstOf S n).bind fun xs => some (.int xs.length, S)
  | _, _ => none
def fAbs : FM
  | [.int i], S => some (.int (if i < 0 then -i else i), S)
  | _, _ => none
def fInt : FM
  | [.int i], S => some (.int i, S)
  | [.bl b], S => some (.int (if b then 1 else 0), S)
  | _, _ => none
def fTuple : FM
  | [.tup xs], S => some (.tup xs, S)
  | [.ref n], S => (lstOf S n).bind fun xs => some (.tup xs, S)
  | _, _ => none
def fList : FM
  | [.tup xs], S => some (.ref S.length, S ++ [.lst xs])
  | [.ref n], S => (lstOf S n).bind fun xs => some (.ref S.length, S ++ [.lst xs])
  | _, _ => none
section
variable {K : PySem.W.Frag}
theorem fn3_len : Fn3 K fLen (fun xs H Q => ∃ p ys, xs = [.ref p] ∧ (SqL K H p ys ∨ SqT K H p ys) ∧ Q (.int ys.length) H) := by
  intro ρ S H xs vs v S' Q sim r h p
  unfold fLen at h
  split at h
  · cases h
    obtain ⟨w, rfl, rw'⟩ := r.one
    cases rw' with
    | tup ha r2 => exact ⟨_, _, rfl, .inr (SqT.of ha), by rw [← r2.length]; exact p ρ H _ (Ext.refl ..) sim (.int _)⟩
  · obtain ⟨ys, h1, h⟩ := bnd h
    cases h
    obtain ⟨w, rfl, rw'⟩ := r.one
    obtain ⟨a, us, ha, sq, r2⟩ := sim.lstOf h1
    cases rw' with
    | ref hn =>
      rw [ha] at hn; cases hn
      exact ⟨_, _, rfl, .inl sq, by rw [← r2.length]; exact p ρ H _ (Ext.refl ..) sim (.int _)⟩
  · cases h
theorem fn3_abs : Fn3 K fAbs (fun xs H Q => ∃ i, xs = [.int i] ∧ Q (.int (if i < 0 then -i else i)) H) := by
  intro ρ S H xs vs v S' Q sim r h p
  unfold fAbs at h
  split at h
  · cases h
    obtain ⟨w, rfl, rw'⟩ := r.one
    cases rw'
    exact ⟨_, rfl, p ρ H _ (Ext.refl ..) sim (.int _)⟩
  · cases h
theorem fn3_tuple : Fn3 K fTuple (fun xs H Q => ∃ p ys, xs = [.ref p] ∧ ((SqL K H p ys ∧ ∀ l, H l = none → Q (.ref l) (upd H l (.tup ys))) ∨ (SqT K H p ys ∧ Q (.ref p) H))) := by
  intro ρ S H xs vs v S' Q sim r h p
  unfold fTuple at h
  split at h
  · cases h
    obtain ⟨w, rfl, rw'⟩ := r.one
    cases rw' with
    | tup ha r2 => exact ⟨_, _, rfl, .inr ⟨SqT.of ha, p ρ H _ (Ext.refl ..) sim (.tup ha r2)⟩⟩
  · obtain ⟨ys, h1, h⟩ := bnd h
    cases h
    obtain ⟨w, rfl, rw'⟩ := r.one
    obtain ⟨a, us, ha, sq, r2⟩ := sim.lstOf h1
    cases rw' with
    | ref hn =>
      rw [ha] at hn; cases hn
      exact ⟨_, _, rfl, .inl ⟨sq, new_tup sim r2 p⟩⟩
  · cases h
theorem fn3_list : Fn3 K fList (fun xs H Q => ∃ p ys, xs = [.ref p] ∧ (SqL K H p ys ∨ SqT K H p ys) ∧ ∀ l, H l = none → Q (.ref l) (upd H l (.lst ys))) := by
  intro ρ S H xs vs v S' Q sim r h p
  unfold fList at h
  split at h
  · cases h
    obtain ⟨w, rfl, rw'⟩ := r.one
    cases rw' with
    | tup ha r2 => exact ⟨_, _, rfl, .inr (SqT.of ha), new_lst sim r2 p⟩
  · obtain ⟨ys, h1, h⟩ := bnd h
    cases h
    obtain ⟨w, rfl, rw'⟩ := r.one
    obtain ⟨a, us, ha, sq, r2⟩ := sim.lstOf h1
    cases rw' with
    | ref hn =>
      rw [ha] at hn; cases hn
      exact ⟨_, _, rfl, .inl sq, new_lst sim r2 p⟩
  · cases h
end
def tyD (S : Sto) : D → Option String
  | .non => some "NoneType" | .bl _ => some "bool" | .int _ => some "int" | .str _ => some "str" | .tup _ => some "tuple"
  | .ref n => match S[n]? with
    | some (.lst _) => some "list"
    | some (.dct _) => some "dict"
    | _ => none
  | .fn _ => none
def isI (T U : String) : Bool := T == U || (T == "bool" && U == "int")
def fIsI (U : String) : D → Sto → Option (D × Sto) := fun x S => (tyD S x).bind fun T => some (.bl (isI T U), S)
def mAppend : D → List D → Sto → Option (D × Sto)
  | .ref n, [x], S => match S[n]? with
    | some (.lst xs) => if xs.length < sizeLine then some (.non, S.set n (.lst (xs ++ [x]))) else none
    | _ => none
  | _, _, _ => none
def mReverse : D → List D → Sto → Option (D × Sto)
  | .ref n, [], S => match S[n]? with
    | some (.lst xs) => some (.non, S.set n (.lst xs.reverse))
    | _ => none
  | _, _, _ => none
theorem RDs.dropLast {ρ : List Addr} {H : Hp} {xs : List D} {vs : List V} (h : RDs ρ H xs vs) : RDs ρ H xs.dropLast vs.dropLast := by
  rw [List.dropLast_eq_take, List.dropLast_eq_take, h.length]
  exact h.take _
section
variable {K : PySem.W.Frag}
theorem mt3_append : Mt3 K mAppend rAppend := by
  intro ρ S H x x' xs vs v S' Q sim rx r h p
  unfold mAppend at h
  split at h
  · split at h
    · rename_i n y S ys e
      obtain ⟨hz, e2⟩ := ite_some h
      cases e2
      obtain ⟨w, rfl, rw'⟩ := r.one
      obtain ⟨a, us, ha, hH, r2⟩ := sim.lst e
      cases rx with
      | ref hn =>
        rw [ha] at hn; cases hn
        exact ⟨a, us, w, rfl, rfl, hH, by rw [← r2.length]; exact hz, p ρ _ _ (ext_upd ha hH) (sim.set ha e hH (r2.append (.cons rw' .nil))) .non⟩
    · cases h
  · cases h
theorem mt3_reverse : Mt3 K mReverse rReverse := by
  intro ρ S H x x' xs vs v S' Q sim rx r h p
  unfold mReverse at h
  split at h
  · split at h
    · rename_i n S ys e
      cases h
      cases r
      obtain ⟨a, us, ha, hH, r2⟩ := sim.lst e
      cases rx with
      | ref hn =>
        rw [ha] at hn; cases hn
        exact ⟨a, us, rfl, rfl, hH, p ρ _ _ (ext_upd ha hH) (sim.set ha e hH r2.reverse) .non⟩
    · cases h
  · cases h
end
def recvL : D → Sto → Option (List D)
  | .ref n, S => lstOf S n
  | _, _ => none
def eMethL (f : D → List D → Sto → Option (D × Sto)) (o : EM) (as : AM) : EM := fun l S => (o l S).bind fun p => (recvL p.1 p.2).bind fun _ => (as l p.2).bind fun q => f p.1 q.1 q.2
section
variable {X : Cx} {a o e : Expr} {es : List Expr} {mo : EM} {mA : AM} {name : Str} {apos cpos pos : Pos} {id : String} {f : D → List D → Sto → Option (D × Sto)} {r : V → List V → Hp → VK → Prop}
theorem recv_ok {K : PySem.W.Frag} {ρ : List Addr} {S : Sto} {H : Hp} {x : D} {x' : V} {xs : List D} (sim : Sim K ρ S H) (rx : RD ρ H x x') (h : recvL x S = some xs) : tyV K "list" x' H := by
  unfold recvL at h
  split at h
  · obtain ⟨a, us, ha, sq, r2⟩ := sim.lstOf h
    cases rx with
    | ref hn =>
      rw [ha] at hn; cases hn
      exact .inl ⟨rfl, us, sq⟩
  · cases h
theorem p3_bm (slot : Slot "list" name id) (hty : typeOf (.builtin id) = pure (.type "method_descriptor")) (hm : MtM X id r) (h3 : Mt3 X.K f r) (ho : PE3 X o mo) (ha : PA3 X (e :: es) mA)
    (hbase : attributeBase o name X.env (eval o X.env) = eval o X.env := by rfl)
    (hfew : ((backTo cpos (starEach (e :: es) X.env)).all (fun x => !x.1) && (backToKw cpos (keywordEach [] X.env)).all (fun x => x.1.isSome)
      && decide ((e :: es).length + ([] : List Keyword).length + (if ([] : List Keyword).isEmpty then 0 else 1) < 30)) = true := by rfl)
    (hline : (apos.endLine == cpos.line) = true := by rfl) (hs : starEach (e :: es) X.env = (false, eval e X.env) :: starEach es X.env := by rfl) (hplain : (backTo cpos (starEach es X.env)).any (·.1) = false := by rfl) :
    PE3 X (.Call (.Attribute o name apos) (e :: es) [] cpos) (eMethL f mo mA) :=
  PE.imp (pe_bm PySem.F.plainAttrs_list slot hty hm ho ha hbase hfew hline hs hplain) fun σ H Q ⟨ρ, l, S, v, S', sim, ro, hq, p⟩ => by
    obtain ⟨⟨x, S1⟩, h1, hq⟩ := bnd hq
    obtain ⟨xs, h2, hq⟩ := bnd hq
    obtain ⟨⟨ys, S2⟩, h4, hq⟩ := bnd hq
    exact ⟨ρ, l, S, x, S1, sim, ro, h1, fun ρ1 H1 x' e1 s1 r1 => ⟨recv_ok s1 r1 h2, ρ1, l, S1, ys, S2, s1, ro.mono e1, h4, fun ρ2 H2 vs e2 s2 r2 => h3 ρ2 S2 H2 x x' ys vs v S' Q s2 (r1.mono e2) r2 hq (p.ext (e1.trans e2))⟩⟩
theorem p3_bm0 (slot : Slot "list" name id) (hty : typeOf (.builtin id) = pure (.type "method_descriptor")) (hm : MtM X id r) (h3 : Mt3 X.K f r) (ho : PE3 X o mo)
    (hbase : attributeBase o name X.env (eval o X.env) = eval o X.env := by rfl) (hline : (apos.endLine == cpos.line) = true := by rfl) :
    PE3 X (.Call (.Attribute o name apos) [] [] cpos) (eMethL f mo aNil) :=
  PE.imp (pe_bm0 PySem.F.plainAttrs_list slot hty hm ho hbase hline) fun σ H Q ⟨ρ, l, S, v, S', sim, ro, hq, p⟩ => by
    obtain ⟨⟨x, S1⟩, h1, hq⟩ := bnd hq
    obtain ⟨xs, h2, hq⟩ := bnd hq
    obtain ⟨⟨ys, S2⟩, h4, hq⟩ := bnd hq
    cases h4
    exact ⟨ρ, l, S, x, S1, sim, ro, h1, fun ρ1 H1 x' e1 s1 r1 => ⟨recv_ok s1 r1 h2, h3 ρ1 S1 H1 x x' [] [] v S' Q s1 r1 .nil hq (p.ext e1)⟩⟩
theorem p3_append {m : EM} (ho : PE3 X o mo) (he : PE3 X e m)
    (hbase : attributeBase o "append" X.env (eval o X.env) = eval o X.env := by rfl)
    (hfew : ((backTo cpos (starEach [e] X.env)).all (fun x => !x.1) && (backToKw cpos (keywordEach [] X.env)).all (fun x => x.1.isSome)
      && decide ([e].length + ([] : List Keyword).length + (if ([] : List Keyword).isEmpty then 0 else 1) < 30)) = true := by rfl)
    (hline : (apos.endLine == cpos.line) = true := by rfl) (hs : starEach [e] X.env = (false, eval e X.env) :: starEach [] X.env := by rfl) :
    PE3 X (.Call (.Attribute o "append" apos) [e] [] cpos) (eMethL mAppend mo (aCons m aNil)) :=
  p3_bm PySem.F.slot_list_append PySem.F.type_list_append mt_append mt3_append ho (a3_cons he a3_nil hs) hbase hfew hline hs
theorem p3_reverse (ho : PE3 X o mo) (hbase : attributeBase o "reverse" X.env (eval o X.env) = eval o X.env := by rfl) (hline : (apos.endLine == cpos.line) = true := by rfl) :
    PE3 X (.Call (.Attribute o "reverse" apos) [] [] cpos) (eMethL mReverse mo aNil) := p3_bm0 PySem.F.slot_list_reverse PySem.F.type_list_reverse mt_reverse mt3_reverse ho hbase hline
end
section
variable {X : Cx} {a : Expr} {ma : EM} {pos p p2 : Pos}
end
def sp3 (K : PySem.W.Frag) (n : Nat) (f : FM) : Sp := fun vs H Q _ => vs.length = n ∧ ∃ ρ ds S v S', Sim K ρ S H ∧ RDs ρ H ds vs ∧ f ds S = some (v, S') ∧ Pv K ρ H v S' Q
section
variable {X : Cx} {a : Expr} {es : List Expr} {mA : AM} {pos p : Pos} {x : Str} {k : Nat} {f : Addr} {fd : FuncData} {ps : List Str} {m : FM}
theorem p3_call {n : Nat} (F : FnOk X.prog X.w X.K X.mg X.base CX0 k f fd ps (sp3 X.K n m)) (hr : Room k X.A) (hg : Gl X x) (hm : X.mg x = some (.ref f)) (hk : PySem.W.keepIn X.K (.ref f) = true) (hb : Binds X.K fd ps [])
    (ha : PA3 X (a :: es) mA) (hl : ∀ l S v S', mA l S = some (v, S') → v.length = n) (hdb : (x == ("__debug__" : Str)) = false := by decide) (he : starEach (a :: es) X.env = (false, eval a X.env) :: starEach es X.env := by rfl) (hpl : (backTo pos (starEach es X.env)).any (·.1) = false := by rfl) :
    PE3 X (.Call (.Name x p) (a :: es) [] pos) (eCall m mA) :=
  PE.imp (pe_call F hr hg hm hk hb .nil pass0 ha hdb he hpl) fun σ H Q ⟨ρ, l, S, v, S', sim, ro, hq, p⟩ => by
    obtain ⟨⟨xs, S1⟩, h1, hq⟩ := bnd hq
    exact ⟨ρ, l, S, xs, S1, sim, ro, h1, fun ρ1 H1 vs e1 s1 r1 => ⟨by rw [List.append_nil, ← r1.length]; exact hl _ _ _ _ h1, ρ1, xs, S1, v, S', s1, by rw [List.append_nil]; exact r1, hq, p.ext e1⟩⟩
theorem len_nil : ∀ l S v S', aNil l S = some (v, S') → v.length = 0 := fun l S v S' h => by cases h; rfl
theorem len_cons {n : Nat} {m : EM} {mA : AM} (h : ∀ l S v S', mA l S = some (v, S') → v.length = n) : ∀ l S v S', aCons m mA l S = some (v, S') → v.length = n + 1 := fun l S v S' q => by
  obtain ⟨⟨x, S1⟩, h1, q⟩ := bnd q
  obtain ⟨⟨y, S2⟩, h2, q⟩ := bnd q
  cases q
  rw [List.length_cons, h _ _ _ _ h2]
end
end L3
namespace L3
open PySem PySem.Spec PyProof.Rows L2
def sNext : SM := fun l S => some (.nx, l, S)
def sBreak : SM := fun l S => some (.bk, l, S)
def sCont : SM := fun l S => some (.ct, l, S)
def sSeq (a b : SM) : SM := fun l S => (a l S).bind fun p => match p.1 with
  | .nx => b p.2.1 p.2.2
  | f => some (f, p.2)
def sDrop (e : EM) : SM := fun l S => (e l S).bind fun p => some (.nx, l, p.2)
def sRet (e : EM) : SM := fun l S => (e l S).bind fun p => some (.rt p.1, l, p.2)
def sIf (c : TM) (a b : SM) : SM := fun l S => (c l S).bind fun p => if p.1 = true then a l p.2 else b l p.2
def sAsg (e : EM) (g : GM) : SM := fun l S => (e l S).bind fun p => (g p.1 l p.2).bind fun q => some (.nx, q)
def gName3 (i : Nat) : GM := fun d l S => some (l.set i (some d), S)
def gNil3 : GsM
  | [], l, S => some (l, S)
  | _, _, _ => none
def gCons3 (g : GM) (r : GsM) : GsM
  | x :: xs, l, S => (g x l S).bind fun p => r xs p.1 p.2
  | _, _, _ => none
def gTup3 (n : Nat) (g : GsM) : GM
  | .tup xs, l, S => if xs.length = n then g xs l S else none
  | _, _, _ => none
def setIx : D → D → D → Sto → Option Sto
  | .ref n, .int i, v, S => match S[n]? with
    | some (.lst xs) => (ixN xs.length i).bind fun j => some (S.set n (.lst (xs.set j v)))
    | _ => none
  | _, _, _, _ => none
def gSub3 (o i : EM) : GM := fun v l S => (o l S).bind fun p => (i l p.2).bind fun q => (setIx p.1 q.1 v q.2).bind fun S' => some (l, S')
section
variable {X : Cx} {st : Stmt} {rest : List Stmt} {m n : SM} {e c : Expr} {me : EM} {pos : Pos}
theorem ss3_nil : PSs3 X [] sNext := PSs.imp pss_nil fun E σ H ⟨ρ, l, S, f, l', S', sim, ro, hm, p⟩ => by
  cases hm
  exact p ρ H σ (Ext.refl ..) sim ro
theorem ss3_cons (h1 : PS3 X st m) (h2 : PSs3 X rest n) : PSs3 X (st :: rest) (sSeq m n) := PSs.imp (pss_cons h1 h2) fun E σ H ⟨ρ, l, S, f, l', S', sim, ro, hm, p⟩ => by
  obtain ⟨⟨g, l1, S1⟩, q1, hm⟩ := bnd hm
  refine ⟨ρ, l, S, g, l1, S1, sim, ro, q1, fun ρ1 H1 σ1 e1 s1 r1 => ?_⟩
  cases g with
  | nx => exact ⟨ρ1, l1, S1, f, l', S', s1, r1, hm, fun ρ2 H2 σ2 e2 s2 r2 => p ρ2 H2 σ2 (e1.trans e2) s2 r2⟩
  | bk => cases hm; exact p ρ1 H1 σ1 e1 s1 r1
  | ct => cases hm; exact p ρ1 H1 σ1 e1 s1 r1
  | rt d => cases hm; exact p ρ1 H1 σ1 e1 s1 r1
theorem ss3_one (h1 : PS3 X st m) : PSs3 X [st] m := pss_one h1
theorem s3_expr (he : PE3 X e me) (hs : swapsWith e none pos.line X.env = pure false := by rfl) : PS3 X (.Expr e pos) (sDrop me) := PS.imp (ps_expr he hs) fun E σ H ⟨ρ, l, S, f, l', S', sim, ro, hm, p⟩ => by
  obtain ⟨⟨x, S1⟩, q1, hm⟩ := bnd hm
  cases hm
  exact ⟨ρ, l, S, x, _, sim, ro, q1, fun ρ1 H1 x' e1 s1 _ => p ρ1 H1 σ e1 s1 (ro.mono e1)⟩
theorem s3_ret (he : PE3 X e me) : PS3 X (.Return (some e) pos) (sRet me) := PS.imp (ps_ret he) fun E σ H ⟨ρ, l, S, f, l', S', sim, ro, hm, p⟩ => by
  obtain ⟨⟨x, S1⟩, q1, hm⟩ := bnd hm
  cases hm
  exact ⟨ρ, l, S, x, _, sim, ro, q1, fun ρ1 H1 x' e1 s1 r1 => p ρ1 H1 σ e1 s1 (ro.mono e1) x' r1⟩
theorem s3_if {c : Expr} {a b : List Stmt} {mc : TM} (hc : PT3 X c mc) (ha : PSs3 X a m) (hb : PSs3 X b n) : PS3 X (.If c a b pos) (sIf mc m n) := PS.imp (ps_if hc ha hb) fun E σ H ⟨ρ, l, S, f, l', S', sim, ro, hm, p⟩ => by
  obtain ⟨⟨x, S1⟩, q1, hm⟩ := bnd hm
  refine ⟨ρ, l, S, x, S1, sim, ro, q1, fun ρ1 H1 e1 s1 => ?_⟩
  cases x with
  | true => exact iteT ⟨ρ1, l, S1, f, l', S', s1, ro.mono e1, hm, fun ρ2 H2 σ2 e2 s2 r2 => p ρ2 H2 σ2 (e1.trans e2) s2 r2⟩
  | false => exact iteF ⟨ρ1, l, S1, f, l', S', s1, ro.mono e1, hm, fun ρ2 H2 σ2 e2 s2 r2 => p ρ2 H2 σ2 (e1.trans e2) s2 r2⟩
def sNever : SM := fun _ _ => none
theorem s3_never : PS3 X st sNever := PS.imp ps_never fun E σ H ⟨ρ, l, S, f, l', S', sim, ro, hm, p⟩ => by cases hm
variable {tgt o i : Expr} {g : GM} {gs : GsM} {ts' : List Expr} {mo mi : EM}
theorem g3_name (j : Nat) {x : Str} (hN : X.N.Nodup) (hi : X.N[j]? = some x := by rfl) (hx : Loc X.env.scope x := by first | exact Or.inl rfl | exact Or.inr rfl) (hf : X.fn x = true ∨ X.env.scope.names.lookup x = some .local := by first | exact .inl rfl | exact .inr rfl | assumption) : PG3 X (.Name x pos) (gName3 j) :=
  PG.imp (pg_name hN hi hx hf) fun v σ H Q ⟨ρ, l, S, d, l', S', sim, ro, rd, hm, p⟩ => by
    cases hm
    exact p ρ H _ (Ext.refl ..) sim (ro.set j rd)
theorem gs3_nil : PGs3 X [] gNil3 := PGs.imp pgs_nil fun v σ H Q ⟨ρ, l, S, d, l', S', sim, ro, rd, hm, p⟩ => by
  cases rd with
  | nil => cases hm; exact ⟨rfl, p ρ H _ (Ext.refl ..) sim ro⟩
  | cons _ _ => cases hm
theorem gs3_cons (h1 : PG3 X tgt g) (h2 : PGs3 X ts' gs) (hs : (assignEach (tgt :: ts') X.env).map (·.2) = assign tgt X.env :: (assignEach ts' X.env).map (·.2) := by rfl) : PGs3 X (tgt :: ts') (gCons3 g gs) := PGs.imp (pgs_cons h1 h2 hs) fun v σ H Q ⟨ρ, l, S, d, l', S', sim, ro, rd, hm, p⟩ => by
  cases rd with
  | nil => cases hm
  | @cons x v' xs vs r1 r2 =>
    obtain ⟨⟨l1, S1⟩, q1, hm⟩ := bnd hm
    exact ⟨v', vs, rfl, ρ, l, S, x, l1, S1, sim, ro, r1, q1, fun ρ1 H1 σ1 e1 s1 ro1 => ⟨ρ1, l1, S1, xs, l', S', s1, ro1, r2.mono e1, hm, fun ρ2 H2 σ2 e2 s2 ro2 => p ρ2 H2 σ2 (e1.trans e2) s2 ro2⟩⟩
theorem g3_tup {es : List Expr} {k n : Nat} (hc : X.calm = true) (h : PGs3 X es gs) (hn : (assignEach es X.env).length = n := by rfl) (hst : (assignEach es X.env).findIdx? (·.1) = none := by rfl) : PG3 X (.Tuple es k pos) (gTup3 n gs) :=
  PG.imp (pg_tup hc h hn hst) fun v σ H Q ⟨ρ, l, S, d, l', S', sim, ro, rd, hm, p⟩ => by
    cases rd with
    | @tup xs a vs ha r =>
      have hm : (if xs.length = n then gs xs l S else none) = some (l', S') := hm
      by_cases hl : xs.length = n
      · rw [if_pos hl] at hm
        exact ⟨a, vs, rfl, SqT.of ha, by rw [← r.length]; exact hl, ρ, l, S, xs, l', S', sim, ro, r, hm, p⟩
      · rw [if_neg hl] at hm; cases hm
    | _ => cases hm
theorem set3_ok {K : PySem.W.Frag} {ρ : List Addr} {S S' : Sto} {H : Hp} {x y z : D} {x' y' z' : V} {Q : Hp → Prop} (sim : Sim K ρ S H) (rx : RD ρ H x x') (ry : RD ρ H y y') (rz : RD ρ H z z') (h : setIx x y z S = some S') (q : ∀ H', Ext ρ H ρ H' → Sim K ρ S' H' → Q H') : rSetL x' y' z' H Q := by
  unfold setIx at h
  split at h
  · split at h
    · rename_i hx
      obtain ⟨j, hj, h⟩ := bnd h
      cases h
      cases ry
      obtain ⟨a, us, ha', hH, r3⟩ := sim.lst hx
      cases rx with
      | ref hn =>
        rw [ha'] at hn; cases hn
        exact ⟨a, us, _, j, rfl, rfl, hH, by rw [← r3.length]; exact hj, q _ (ext_upd ha' hH) (sim.set ha' hx hH (r3.set rz j))⟩
    · cases h
  · cases h
theorem g3_sub (ho : PE3 X o mo) (hi : PE3 X i mi)
    (ha : ∀ v, assign (.Subscript o i pos) X.env v = (do
      let ov ← holding [v] (eval o X.env)
      let iv ← holding [v, ov] (eval i X.env)
      standAt pos
      holding [v, ov, iv] (setItem ov iv v)
      release [v, ov, iv] []) := by intro _; rfl) : PG3 X (.Subscript o i pos) (gSub3 mo mi) :=
  PG.imp (pg_sub ho hi set_list ha) fun v σ H Q ⟨ρ, l, S, d, l', S', sim, ro, rd, hm, p⟩ => by
    obtain ⟨⟨x, S1⟩, q1, hm⟩ := bnd hm
    obtain ⟨⟨y, S2⟩, q2, hm⟩ := bnd hm
    obtain ⟨S3, q3, hm⟩ := bnd hm
    cases hm
    exact ⟨ρ, l, S, x, S1, sim, ro, q1, fun ρ1 H1 x' e1 s1 r1 => ⟨ρ1, l, S1, y, S2, s1, ro.mono e1, q2, fun ρ2 H2 y' e2 s2 r2 => set3_ok s2 (r1.mono e2) r2 (rd.mono (e1.trans e2)) q3 fun H3 e3 s3 => p ρ2 H3 σ (e1.trans (e2.trans e3)) s3 (ro.mono (e1.trans (e2.trans e3)))⟩⟩
theorem s3_asg (he : PE3 X e me) (hg : PG3 X tgt g) (hs : swapsWithSole [tgt] e pos.line X.env = pure false := by rfl) (hw : swappedStores [tgt] e X.env = pure none := by rfl)
    (h1 : (assignEach [tgt] X.env).map (·.2) = [assign tgt X.env] := by rfl) : PS3 X (.Assign [tgt] e pos) (sAsg me g) := PS.imp (ps_asg he hg hs hw h1) fun E σ H ⟨ρ, l, S, f, l', S', sim, ro, hm, p⟩ => by
  obtain ⟨⟨x, S1⟩, q1, hm⟩ := bnd hm
  obtain ⟨⟨l2, S2⟩, q2, hm⟩ := bnd hm
  cases hm
  exact ⟨ρ, l, S, x, S1, sim, ro, q1, fun ρ1 H1 x' e1 s1 r1 => ⟨ρ1, l, S1, x, _, _, s1, ro.mono e1, r1, q2, fun ρ2 H2 σ2 e2 s2 r2 => p ρ2 H2 σ2 (e1.trans e2) s2 r2⟩⟩
theorem s3_set (j : Nat) {x : Str} {pos' : Pos} (hN : X.N.Nodup) (he : PE3 X e me) (hi : X.N[j]? = some x := by rfl) (hx : Loc X.env.scope x := by first | exact Or.inl rfl | exact Or.inr rfl) (hs : swapsWith e (some (.Name x pos')) pos.line X.env = pure false := by rfl) (hf : X.fn x = true ∨ X.env.scope.names.lookup x = some .local := by first | exact .inl rfl | exact .inr rfl | assumption) :
    PS3 X (.Assign [.Name x pos'] e pos) (sAsg me (gName3 j)) := PS.imp (ps_set hN hi hx he hs hf) fun E σ H ⟨ρ, l, S, f, l', S', sim, ro, hm, p⟩ => by
  obtain ⟨⟨x, S1⟩, q1, hm⟩ := bnd hm
  cases hm
  exact ⟨ρ, l, S, x, _, sim, ro, q1, fun ρ1 H1 x' e1 s1 r1 => p ρ1 H1 _ e1 s1 ((ro.mono e1).set j r1)⟩
end
def forX (g : GM) (b : SM) : List D → SM
  | [], l, S => some (.nx, l, S)
  | x :: xs, l, S => (g x l S).bind fun p => (b p.1 p.2).bind fun q => match q.1 with
    | .nx => forX g b xs q.2.1 q.2.2
    | .ct => forX g b xs q.2.1 q.2.2
    | .bk => some (.nx, q.2)
    | .rt d => some (.rt d, q.2)
def forL (g : GM) (b : SM) (n : Nat) : Nat → Nat → SM
  | 0, _, _, _ => none
  | k + 1, i, l, S => (lstOf S n).bind fun xs => match xs[i]? with
    | none => some (.nx, l, S)
    | some x => (g x l S).bind fun p => (b p.1 p.2).bind fun q => match q.1 with
      | .nx => forL g b n k (i + 1) q.2.1 q.2.2
      | .ct => forL g b n k (i + 1) q.2.1 q.2.2
      | .bk => some (.nx, q.2)
      | .rt d => some (.rt d, q.2)
def sFor (e : EM) (g : GM) (b : SM) : SM := fun l S => (e l S).bind fun p => match p.1 with
  | .tup xs => forX g b xs l p.2
  | .ref n => (lstOf p.2 n).bind fun xs => forL g b n (xs.length + 1) 0 l p.2
  | _ => none
def rngD (lo : Int) (n : Nat) : List D := (List.range n).map fun (i : Nat) => .int (lo + i)
def rng1 (as : AM) : Lo → Sto → Option ((Int × Nat) × Sto) := fun l S => (as l S).bind fun p => match p.1 with
  | [.int j] => if -(2 ^ 62) ≤ j ∧ j < 2 ^ 62 then some ((0, j.toNat), p.2) else none
  | _ => none
def rng2 (as : AM) : Lo → Sto → Option ((Int × Nat) × Sto) := fun l S => (as l S).bind fun p => match p.1 with
  | [.int i, .int j] => if -(2 ^ 62) ≤ i ∧ i < 2 ^ 62 ∧ -(2 ^ 62) ≤ j ∧ j < 2 ^ 62 then some ((i, (j - i).toNat), p.2) else none
  | _ => none
def sForR (r : Lo → Sto → Option ((Int × Nat) × Sto)) (g : GM) (b : SM) : SM := fun l S => (r l S).bind fun p => forX g b (rngD p.1.1 p.1.2) l p.2
section
variable {K : PySem.W.Frag} {g : GM} {b : SM} {E : Ends}
theorem turn3 {next : SM} {x : D} {v : V} {ρ : List Addr} {l : Lo} {S : Sto} {H : Hp} {σ : St} {f : Fl} {l' : Lo} {S' : Sto} (sim : Sim K ρ S H) (ro : RO ρ H l σ) (rx : RD ρ H x v)
    (hm : ((g x l S).bind fun p => (b p.1 p.2).bind fun q => match q.1 with
      | .nx => next q.2.1 q.2.2
      | .ct => next q.2.1 q.2.2
      | .bk => some (.nx, q.2)
      | .rt d => some (.rt d, q.2)) = some (f, l', S')) (p : ∀ ρ' H' σ', Ext ρ H ρ' H' → Sim K ρ' S' H' → RO ρ' H' l' σ' → ends ρ' H' E σ' f)
    {N : St → Hp → Prop} (hN : ∀ ρ1 H1 σ1 l1 S1, Ext ρ H ρ1 H1 → Sim K ρ1 S1 H1 → RO ρ1 H1 l1 σ1 → next l1 S1 = some (f, l', S') → N σ1 H1) :
    tg K g v σ H fun σ2 H2 => ts K b { E with nx := N, ct := N, bk := E.nx } σ2 H2 := by
  obtain ⟨⟨l1, S1⟩, q1, hm⟩ := bnd hm
  obtain ⟨⟨fl, l2, S2⟩, q2, hm⟩ := bnd hm
  refine ⟨ρ, l, S, x, l1, S1, sim, ro, rx, q1, fun ρ1 H1 σ1 e1 s1 r1 => ⟨ρ1, l1, S1, fl, l2, S2, s1, r1, q2, fun ρ2 H2 σ2 e2 s2 r2 => ?_⟩⟩
  cases fl with
  | nx => exact hN ρ2 H2 σ2 l2 S2 (e1.trans e2) s2 r2 hm
  | ct => exact hN ρ2 H2 σ2 l2 S2 (e1.trans e2) s2 r2 hm
  | bk => cases hm; exact p ρ2 H2 σ2 (e1.trans e2) s2 r2
  | rt d => cases hm; exact p ρ2 H2 σ2 (e1.trans e2) s2 r2
end
section
variable {X : Cx} {tgt iter : Expr} {body : List Stmt} {g : GM} {b : SM} {m : EM} {pos : Pos}
theorem loopX {K : PySem.W.Frag} {J : It} {vs : List V} {xs : List D} {ρ : List Addr} {l : Lo} {S : Sto} {H : Hp} {σ : St} {f : Fl} {l' : Lo} {S' : Sto} {E : Ends} (R : List Addr → Hp → Prop) (hR : ∀ ρ H ρ' H', Ext ρ H ρ' H' → R ρ H → R ρ' H')
    (hgo : ∀ (i : Nat) ρ H v, R ρ H → vs[i]? = some v → J.go i H) (hy : ∀ (i : Nat) ρ H v H', R ρ H → i < vs.length → J.yld i H v H' → H' = H ∧ vs[i]? = some v) (hst : ∀ ρ H, R ρ H → J.stop vs.length H)
    (hv : ∀ ρ H, R ρ H → RDs ρ H xs vs) (r0 : R ρ H)
    (sim : Sim K ρ S H) (ro : RO ρ H l σ) (hm : forX g b xs l S = some (f, l', S')) (p : ∀ ρ' H' σ', Ext ρ H ρ' H' → Sim K ρ' S' H' → RO ρ' H' l' σ' → ends ρ' H' E σ' f) :
    ∃ W : Nat → Nat → St → Hp → Prop, (∃ m, W 0 m σ H) ∧ ∀ i m σ H, W i m σ H →
      (J.stop i H ∧ E.nx σ H) ∨ (J.go i H ∧ ∃ N : St → Hp → Prop, (∀ σ' H', N σ' H' → ∃ m', m' < m ∧ W (i + 1) m' σ' H') ∧ ∀ x H', J.yld i H x H' → tg K g x σ H' fun σ2 H2 => ts K b { E with nx := N, ct := N, bk := E.nx } σ2 H2) := by
  refine ⟨fun i m σ1 H1 => m = xs.length - i ∧ i ≤ xs.length ∧ ∃ ρ1 l1 S1, Ext ρ H ρ1 H1 ∧ Sim K ρ1 S1 H1 ∧ RO ρ1 H1 l1 σ1 ∧ forX g b (xs.drop i) l1 S1 = some (f, l', S'), ⟨xs.length, by simp, Nat.zero_le _, ρ, l, S, Ext.refl .., sim, ro, hm⟩, ?_⟩
  rintro i m σ1 H1 ⟨rfl, hi, ρ1, l1, S1, e1, s1, ro1, hm1⟩
  have R1 := hR _ _ _ _ e1 r0
  have hlen := (hv _ _ r0).length
  by_cases hlt : i < xs.length
  · have hx : xs[i]? = some xs[i] := List.getElem?_eq_getElem hlt
    obtain ⟨v, hvi, rv⟩ := (hv _ _ R1).get hx
    rw [List.drop_eq_getElem_cons hlt] at hm1
    refine .inr ⟨hgo i ρ1 H1 v R1 hvi, _, fun σ' H' h => h, fun y H' hyl => ?_⟩
    obtain ⟨e, hy2⟩ := hy i ρ1 H1 y H' R1 (by omega) hyl
    subst e
    rw [hvi] at hy2; cases hy2
    refine turn3 (next := forX g b (xs.drop (i + 1))) s1 ro1 rv hm1 (fun ρ' H' σ' e' => p ρ' H' σ' (e1.trans e')) fun ρ2 H2 σ2 l2 S2 e2 s2 ro2 hm2 => ?_
    exact ⟨xs.length - (i + 1), by omega, rfl, hlt, ρ2, l2, S2, e1.trans e2, s2, ro2, hm2⟩
  · have hil : i = xs.length := by omega
    subst hil
    rw [List.drop_length] at hm1
    cases hm1
    exact .inl ⟨by rw [hlen]; exact hst _ _ R1, p ρ1 H1 σ1 e1 s1 ro1⟩
theorem rng_rd (ρ : List Addr) (H : Hp) (lo : Int) (n : Nat) : RDs ρ H (rngD lo n) ((List.range n).map fun (i : Nat) => V.int (lo + i)) := by
  unfold rngD
  generalize List.range n = l
  induction l with
  | nil => exact .nil
  | cons a r ih => exact .cons (.int _) ih
theorem itr_get {lo : Int} {n i : Nat} {v : V} (h : i < n) (hv : v = .int (lo + i)) : ((List.range n).map fun (i : Nat) => V.int (lo + i))[i]? = some v := by
  rw [List.getElem?_map, List.getElem?_range h, hv]; rfl
theorem PI.or {wi wj : TI} (h : PI X tgt iter wi) (h' : PI X tgt iter wj) : PI X tgt iter (fun σ H R => wi σ H R ∨ wj σ H R) := by
  intro pins s σ H R I q
  rcases q with q | q
  · exact h pins s σ H R I q
  · exact h' pins s σ H R I q
theorem loopL {K : PySem.W.Frag} {n : Nat} {a : Addr} {ρ : List Addr} {l : Lo} {S : Sto} {H : Hp} {σ : St} {f : Fl} {l' : Lo} {S' : Sto} {E : Ends} {k : Nat} (ha : ρ[n]? = some a)
    (sim : Sim K ρ S H) (ro : RO ρ H l σ) (hm : forL g b n k 0 l S = some (f, l', S')) (p : ∀ ρ' H' σ', Ext ρ H ρ' H' → Sim K ρ' S' H' → RO ρ' H' l' σ' → ends ρ' H' E σ' f) :
    ∃ W : Nat → Nat → St → Hp → Prop, (∃ m, W 0 m σ H) ∧ ∀ i m σ H, W i m σ H →
      ((Itl K a).stop i H ∧ E.nx σ H) ∨ ((Itl K a).go i H ∧ ∃ N : St → Hp → Prop, (∀ σ' H', N σ' H' → ∃ m', m' < m ∧ W (i + 1) m' σ' H') ∧ ∀ x H', (Itl K a).yld i H x H' → tg K g x σ H' fun σ2 H2 => ts K b { E with nx := N, ct := N, bk := E.nx } σ2 H2) := by
  refine ⟨fun i m σ1 H1 => ∃ ρ1 l1 S1, Ext ρ H ρ1 H1 ∧ Sim K ρ1 S1 H1 ∧ RO ρ1 H1 l1 σ1 ∧ forL g b n m i l1 S1 = some (f, l', S'), ⟨k, ρ, l, S, Ext.refl .., sim, ro, hm⟩, ?_⟩
  rintro i m σ1 H1 ⟨ρ1, l1, S1, e1, s1, ro1, hm1⟩
  cases m with
  | zero => cases hm1
  | succ m =>
    have ha1 := e1.pre n a ha
    unfold forL at hm1
    obtain ⟨xs, hx, hm1⟩ := bnd hm1
    obtain ⟨a', vs, ha', sq, rv⟩ := s1.lstOf hx
    rw [ha1] at ha'; cases ha'
    cases hi : xs[i]? with
    | none =>
      rw [hi] at hm1
      cases hm1
      have hl : xs.length ≤ i := List.getElem?_eq_none_iff.mp hi
      exact .inl ⟨⟨vs, sq, by rw [← rv.length]; exact hl⟩, p ρ1 H1 σ1 e1 s1 ro1⟩
    | some x =>
      rw [hi] at hm1
      obtain ⟨v, hvi, r⟩ := rv.get hi
      refine .inr ⟨⟨vs, v, sq, hvi⟩, _, fun σ' H' h => h, fun y H' hyl => ?_⟩
      obtain ⟨e, hy2⟩ := hyl
      subst e
      have hy3 := hy2 vs sq
      rw [hvi] at hy3; cases hy3
      refine turn3 (next := forL g b n m (i + 1)) s1 ro1 r hm1 (fun ρ' H' σ' e' => p ρ' H' σ' (e1.trans e')) fun ρ2 H2 σ2 l2 S2 e2 s2 ro2 hm2 => ?_
      exact ⟨m, Nat.lt_succ_self m, ρ2, l2, S2, e1.trans e2, s2, ro2, hm2⟩
theorem s3_for (hp : PassesOwn (model X.prog X.w) X.A X.env X.xe) (hc : X.calm = true) (hi : PE3 X iter m) (hg : PG3 X tgt g) (hb : PSs3 X body b)
    (hs : ∀ x, foldedSetIterable iter X.env x = pure x := by intro _; rfl) : PS3 X (.For tgt iter body [] pos) (sFor m g b) :=
  PS.imp (ps_for hp hc (PI.or (pi_list hi) (pi_tup hi)) hg hb hs) fun E σ H ⟨ρ, l, S, f, l', S', sim, ro, hm, p⟩ => by
    obtain ⟨⟨x, S1⟩, q1, hm⟩ := bnd hm
    dsimp only at hm
    split at hm
    · rename_i xs
      refine .inr ⟨ρ, l, S, .tup xs, S1, sim, ro, q1, fun ρ1 H1 x' e1 s1 r1 => ?_⟩
      cases r1 with
      | @tup xs a vs ha r =>
        refine ⟨a, rfl, ⟨vs, SqT.of ha⟩, loopX (vs := vs) (fun ρ' H' => H' a = some (.tup vs) ∧ RDs ρ' H' xs vs) (fun ρ H ρ' H' e ⟨h1, h2⟩ => ⟨e.tup _ _ h1, h2.mono e⟩)
          (fun i ρ H v ⟨h1, _⟩ hv => ⟨vs, v, SqT.of h1, hv⟩) (fun i ρ H v H' ⟨h1, _⟩ _ hy => ⟨hy.1, hy.2 vs (SqT.of h1)⟩) (fun ρ H ⟨h1, _⟩ => ⟨vs, SqT.of h1, Nat.le_refl _⟩) (fun ρ H h => h.2) ⟨ha, r⟩ s1 (ro.mono e1) hm fun ρ' H' σ' e' => p ρ' H' σ' (e1.trans e')⟩
    · rename_i n
      obtain ⟨xs, hx, hm⟩ := bnd hm
      refine .inl ⟨ρ, l, S, .ref n, S1, sim, ro, q1, fun ρ1 H1 x' e1 s1 r1 => ?_⟩
      obtain ⟨a, vs, ha, sq, rv⟩ := s1.lstOf hx
      cases r1 with
      | ref hn =>
        rw [ha] at hn; cases hn
        exact ⟨a, rfl, ⟨vs, sq⟩, loopL ha s1 (ro.mono e1) hm (fun ρ' H' σ' e' => p ρ' H' σ' (e1.trans e'))⟩
    · cases hm
theorem s3_forR1 {a : Expr} {mA : AM} {p0 pos' : Pos} (hp : PassesOwn (model X.prog X.w) X.A X.env X.xe) (hc : X.calm = true) (hgl : Gl X "range") (hmg : X.mg "range" = none) (ha : PA3 X [a] mA) (hg : PG3 X tgt g) (hb : PSs3 X body b)
    (hs : ∀ x, foldedSetIterable (.Call (.Name "range" p0) [a] [] pos') X.env x = pure x := by intro _; rfl) (hst : starEach [a] X.env = [(false, eval a X.env)] := by rfl) : PS3 X (.For tgt (.Call (.Name "range" p0) [a] [] pos') body [] pos) (sForR (rng1 mA) g b) :=
  PS.imp (ps_for hp hc (pi_range1 hgl hmg ha hst) hg hb hs) fun E σ H ⟨ρ, l, S, f, l', S', sim, ro, hm, p⟩ => by
    obtain ⟨⟨⟨lo, n⟩, S1⟩, q1, hm⟩ := bnd hm
    obtain ⟨⟨xs, S2⟩, q2, q1⟩ := bnd q1
    dsimp only at q1 hm
    split at q1
    · rename_i j
      obtain ⟨hz, e⟩ := ite_some q1
      cases e
      refine ⟨ρ, l, S, [.int j], S1, sim, ro, q2, fun ρ1 H1 vs e1 s1 r1 => ?_⟩
      obtain ⟨v, rfl, rv⟩ := r1.one
      cases rv
      refine ⟨j, rfl, hz.1, hz.2, loopX (vs := (List.range j.toNat).map fun (i : Nat) => V.int (0 + i)) (fun _ _ => True) (fun _ _ _ _ _ h => h) (fun i ρ H v _ hv => ?_) (fun i ρ H v H' _ hl hy => ⟨hy.1, ?_⟩) (fun ρ H _ => ?_) (fun ρ H _ => rng_rd ρ H 0 j.toNat) trivial s1 (ro.mono e1) hm fun ρ' H' σ' e' => p ρ' H' σ' (e1.trans e')⟩
      · have := (List.getElem?_eq_some_iff.mp hv).1
        simp at this
        show i < j.toNat
        omega
      · obtain ⟨_, hy⟩ := hy
        exact itr_get (by simpa using hl) hy
      · show j.toNat ≤ _
        simp
    · cases q1
theorem s3_forR2 {a a2 : Expr} {mA : AM} {p0 pos' : Pos} (hp : PassesOwn (model X.prog X.w) X.A X.env X.xe) (hc : X.calm = true) (hgl : Gl X "range") (hmg : X.mg "range" = none) (ha : PA3 X [a, a2] mA) (hg : PG3 X tgt g) (hb : PSs3 X body b)
    (hs : ∀ x, foldedSetIterable (.Call (.Name "range" p0) [a, a2] [] pos') X.env x = pure x := by intro _; rfl) (hst : starEach [a, a2] X.env = [(false, eval a X.env), (false, eval a2 X.env)] := by rfl) (hst2 : starEach [a2] X.env = [(false, eval a2 X.env)] := by rfl) : PS3 X (.For tgt (.Call (.Name "range" p0) [a, a2] [] pos') body [] pos) (sForR (rng2 mA) g b) :=
  PS.imp (ps_for hp hc (pi_range2 hgl hmg ha hst hst2) hg hb hs) fun E σ H ⟨ρ, l, S, f, l', S', sim, ro, hm, p⟩ => by
    obtain ⟨⟨⟨lo, n⟩, S1⟩, q1, hm⟩ := bnd hm
    obtain ⟨⟨xs, S2⟩, q2, q1⟩ := bnd q1
    dsimp only at q1 hm
    split at q1
    · rename_i i0 j
      obtain ⟨hz, e⟩ := ite_some q1
      cases e
      refine ⟨ρ, l, S, [.int lo, .int j], S1, sim, ro, q2, fun ρ1 H1 vs e1 s1 r1 => ?_⟩
      obtain ⟨v, u, rfl, rv, ru⟩ := r1.two
      cases rv; cases ru
      refine ⟨lo, j, rfl, hz, loopX (vs := (List.range (j - lo).toNat).map fun (i : Nat) => V.int (lo + i)) (fun _ _ => True) (fun _ _ _ _ _ h => h) (fun i ρ H v _ hv => ?_) (fun i ρ H v H' _ hl hy => ⟨hy.1, ?_⟩) (fun ρ H _ => ?_) (fun ρ H _ => rng_rd ρ H lo (j - lo).toNat) trivial s1 (ro.mono e1) hm fun ρ' H' σ' e' => p ρ' H' σ' (e1.trans e')⟩
      · have := (List.getElem?_eq_some_iff.mp hv).1
        simp at this
        show i < (j - lo).toNat
        omega
      · obtain ⟨_, hy⟩ := hy
        exact itr_get (by simpa using hl) hy
      · show (j - lo).toNat ≤ _
        simp
    · cases q1
end
def runB (n : Nat) (b : SM) : FM := fun ds S => (b (ds.map some ++ List.replicate (n - ds.length) none) S).bind fun p => match p.1 with
  | .rt d => some (d, p.2.2)
  | .nx => some (.non, p.2.2)
  | _ => none
theorem RDs.locals {ρ : List Addr} {H : Hp} {ds : List D} {vs : List V} (r : RDs ρ H ds vs) (N : List Str) : RO ρ H (ds.map some ++ List.replicate (N.length - ds.length) none) (L2.start N vs) := by
  unfold L2.start
  rw [← r.length]
  refine ⟨by simp [r.length], fun i d h => ?_⟩
  by_cases hl : i < ds.length
  · rw [List.getElem?_append_left (by simpa using hl), List.getElem?_map] at h
    cases e : ds[i]? with
    | none => rw [e] at h; cases h
    | some d' =>
      rw [e] at h
      have h' : some (some d') = some (some d) := h
      cases h'
      obtain ⟨v, h1, h2⟩ := r.get e
      exact ⟨v, by rw [List.getElem?_append_left (by rw [List.length_map, ← r.length]; exact hl), List.getElem?_map, h1]; rfl, h2⟩
  · rw [List.getElem?_append_right (by simpa using hl), List.getElem?_replicate] at h
    split at h
    · cases h
    · cases h
theorem fun3 {P : Program} {w : World} {K : PySem.W.Frag} {mg : Str → Option Value} {base : Heap} {x qual : Str} {st : Stmt} {f : Addr} {fd : FuncData} {N ps : List Str} {k n : Nat} {b : SM} (F : Fun K x qual st f fd) (S : FnScope N ps (defScope st)) (hn : ps.length = n)
    (hbody : ∀ (cdv : Value), PySem.W.codeIn K cdv qual = true → ∀ (A : Around) (outer : List Env) (s : Shared) (H : Hp) (E : XK), Room k (A.deeper (envOfC qual (defScope st) s.heap.objs.size f cdv)) →
      PSs3 (cxOf CX0 P w K mg base N qual (defScope st) f cdv A outer s H E).nox (defBody st) b) : FnOk P w K mg base CX0 (k + 1) f fd ps (sp3 K n (runB N.length b)) := by
  obtain ⟨oc, od, kV, doc, pm, an, cdv, ct, osl, rfl, lk, hcd⟩ := F.ex
  refine fn_of lk hcd S (fun vs H Q E h => by rw [h.1, hn]) fun A outer s H vs Q E hr h => ?_
  obtain ⟨hl, ρ, ds, S0, v, S', sim, rd, hm, p⟩ := h
  refine ⟨_, PSs.nox (hbody cdv hcd A outer s H E hr), ?_⟩
  obtain ⟨⟨fl, l', S1⟩, q, hm⟩ := bnd hm
  refine ⟨ρ, _, S0, fl, l', S1, sim, rd.locals N, q, fun ρ' H' σ' e' s' r' => ?_⟩
  cases fl with
  | nx => cases hm; exact p ρ' H' _ e' s' .non
  | rt d => cases hm; exact fun v' rv => p ρ' H' v' e' s' rv
  | bk => cases hm
  | ct => cases hm
end L3
namespace L3
open PySem PySem.Spec PyProof.Rows L2
def clOf (env : Env) : List (Str × NameKind) → List (Str × Addr) → List (Str × Addr)
  | [], cs => cs
  | (n, k) :: r, cs => if k == .free then (match env.cells.lookup n with | some c => clOf env r ((n, c) :: cs) | none => clOf env r cs) else clOf env r cs
theorem closure_eq (env : Env) : ∀ (names : List (Str × NameKind)) (cs : List (Str × Addr)), (∀ x ∈ names, x.2 = .free → ∃ c, env.cells.lookup x.1 = some c) →
    (forIn names cs (fun x r => if (x.2 == NameKind.free) = true then do let c ← cellOf env x.1; pure (ForInStep.yield ((x.1, c) :: r)) else pure (ForInStep.yield r)) : Sem (List (Str × Addr))) = pure (clOf env names cs)
  | [], cs, _ => rfl
  | (n, k) :: r, cs, h => by
    have ih := fun cs => closure_eq env r cs fun x hx => h x (List.mem_cons_of_mem _ hx)
    rw [List.forIn_cons]
    by_cases hk : k = .free
    · subst hk
      obtain ⟨c, hc⟩ := h (n, .free) List.mem_cons_self rfl
      simp only [beq_self_eq_true, if_true, cellOf, hc, clOf, pure_bind, bind_assoc]
      exact ih _
    · have hb : (k == NameKind.free) = false := by simpa using hk
      simp only [hb, Bool.false_eq_true, if_false, clOf, pure_bind]
      exact ih _
theorem closureFor_eq (scope : Scope) (env : Env) (h : ∀ x ∈ scope.names, x.2 = .free → ∃ c, env.cells.lookup x.1 = some c) : closureFor scope env = pure (clOf env scope.names []) := by
  have e := closure_eq env scope.names [] h
  unfold closureFor
  show (forIn scope.names ([] : List (Str × Addr)) (fun (x : Str × NameKind) (r : List (Str × Addr)) => if (x.2 == NameKind.free) = true then do let c ← cellOf env x.1; pure (ForInStep.yield ((x.1, c) :: r)) else pure (ForInStep.yield r)) >>= fun cs => pure cs) = _
  rw [e, pure_bind]
theorem clOf_sub (env : Env) : ∀ (names : List (Str × NameKind)) (cs : List (Str × Addr)), (∀ x c, cs.lookup x = some c → env.cells.lookup x = some c) → ∀ x c, (clOf env names cs).lookup x = some c → env.cells.lookup x = some c
  | [], cs, h, x, c, q => h x c q
  | (n, k) :: r, cs, h, x, c, q => by
    unfold clOf at q
    split at q
    · split at q
      · rename_i c' e
        refine clOf_sub env r _ (fun y d hy => ?_) x c q
        rw [List.lookup_cons] at hy
        split at hy
        · rename_i hb
          have : y = n := by simpa using hb
          cases hy
          rw [this]; exact e
        · exact h y d hy
      · exact clOf_sub env r cs h x c q
    · exact clOf_sub env r cs h x c q
theorem clOf_has (env : Env) : ∀ (names : List (Str × NameKind)) (cs : List (Str × Addr)) (x : Str), ((x, NameKind.free) ∈ names ∨ ∃ c, cs.lookup x = some c) → (∃ c, env.cells.lookup x = some c) → ∃ c, (clOf env names cs).lookup x = some c
  | [], cs, x, h, _ => by
    rcases h with h | h
    · cases h
    · exact h
  | (n, k) :: r, cs, x, h, hx => by
    unfold clOf
    by_cases hk : (k == NameKind.free) = true
    · rw [if_pos hk]
      split
      · rename_i c' e
        refine clOf_has env r _ x ?_ hx
        by_cases hxn : x = n
        · exact .inr ⟨c', by rw [hxn, List.lookup_cons]; simp⟩
        · rcases h with h | ⟨c, h⟩
          · rcases List.mem_cons.mp h with h | h
            · cases h; exact absurd rfl hxn
            · exact .inl h
          · exact .inr ⟨c, by
              rw [List.lookup_cons]
              have : (x == n) = false := by simpa using hxn
              rw [this]; exact h⟩
      · rename_i e
        refine clOf_has env r _ x ?_ hx
        rcases h with h | h
        · rcases List.mem_cons.mp h with h | h
          · cases h
            obtain ⟨c, hc⟩ := hx
            rw [hc] at e; cases e
          · exact .inl h
        · exact .inr h
    · rw [if_neg hk]
      refine clOf_has env r _ x ?_ hx
      rcases h with h | h
      · rcases List.mem_cons.mp h with h | h
        · cases h; exact absurd rfl hk
        · exact .inl h
      · exact .inr h
def cxC (X : Cx) (N' : List Str) (scope : Scope) (C : Addr) (s : Shared) (H : Hp) (fp : List Addr) (pins : List (Addr × Obj)) : Cx where
  prog := X.prog
  w := X.w
  K := X.K
  mg := X.mg
  base := X.base
  A := X.A
  N := N'
  s₀ := s
  H₀ := H
  env := compEnvC scope (clOf X.env scope.names []) C X.env
  outer := X.stack
  stack := X.stack
  ex := fp
  fn := fun _ => false
  calm := X.calm
  pn := X.pn ++ pins
  xe := fun _ _ => False
section
variable {prog : Program} {w : World} {A : Around} {R : Result → Shared → Prop} {s : Shared}
theorem compLoopG {elt target iter : Expr} {ifs : List Expr} {scope : Scope} {pos : Pos} {it acc : Value} {env : Env} (I : Nat → Shared → Prop)
    (turn : ∀ n s, I n s → wpAny (model prog w) A (pyNext it) (fun r s₁ => match r with
      | none => R (.ok .next) s₁
      | some v => wpAny (model prog w) A (letOwnedTupleGo target it v) (fun _ s₁' => wpAny (model prog w) A (assign target env v) (fun _ s₂ =>
          wpAny (model prog w) A (forIn ifs true fun c r => if r = true then do let ok ← isTrue c env (eval c env); pure (ForInStep.yield ok) else pure (ForInStep.yield r)) (fun ok s₃ =>
            if ok = true then wpAny (model prog w) A (eval elt env) (fun x s₄ =>
              wpAny (model prog w) A (call (.builtin "list.append") [acc, x]) (fun _ s₅ => ∃ m, m < n ∧ I m s₅) (fun _ _ => False) s₄) (fun _ _ => False) s₃
            else ∃ m, m < n ∧ I m s₃) (fun _ _ => False) s₂) (fun _ _ => False) s₁') (fun _ _ => False) s₁) (fun _ _ => False) s)
    (n : Nat) (h : I n s) :
    codeAny (model prog w) A (.compLoop (.ListComp elt [⟨target, iter, ifs, 0⟩] scope pos) 0 it acc env) R s := by
  refine codeAny_loop rfl I (fun n s hI => ?_) n h
  show wpAny _ A ((compTurn (.ListComp elt [⟨target, iter, ifs, 0⟩] scope pos) 0 it acc env).onRaise (fun x => do noteFrame x env; theTreesLotGoes x)) _ _ s
  refine wpAny_noted ?_
  rw [compTurn_list]
  refine wpAny_bind (wpAny_standAt (wpAny_bind (wpAny_mono (turn n s hI) (fun r s₁ h₁ => ?_) fun _ _ h' => h'.elim)))
  cases r with
  | none => exact wpAny_pure h₁
  | some v =>
    refine wpAny_bind (wpAny_mono h₁ (fun _ s₁' h₁ => ?_) fun _ _ h' => h'.elim)
    refine wpAny_bind (wpAny_mono h₁ (fun _ s₂ h₂ => wpAny_bind (wpAny_mono h₂ (fun ok s₃ h₃ => ?_) fun _ _ h' => h'.elim)) fun _ _ h' => h'.elim)
    cases ok with
    | false => exact wpAny_pure ⟨rfl, h₃⟩
    | true =>
      exact wpAny_bind (wpAny_bind (wpAny_mono h₃ (fun x s₄ h₄ => wpAny_bind (wpAny_mono h₄ (fun _ s₅ h₅ => wpAny_pure (wpAny_pure ⟨rfl, h₅⟩)) fun _ _ h' => h'.elim)) fun _ _ h' => h'.elim))
end
def PTs (X : Cx) (ifs : List Expr) (t : TT) : Prop := ∀ (pins : List (Addr × Obj)) (s : Shared) (σ : St) (H : Hp) (Q : Bool → Hp → Prop), Inv X pins σ H s → t σ H Q →
  wpAny (model X.prog X.w) X.A (forIn ifs true fun c r => if r = true then do let ok ← isTrue c X.env (eval c X.env); pure (ForInStep.yield ok) else pure (ForInStep.yield r)) (TP X pins σ Q) X.xe s
theorem pts_nil {X : Cx} : PTs X [] (fun _ H Q => Q true H) := fun _ _ _ H _ I h => wpAny_tests_nil ⟨H, I, h⟩
def tComp (K : PySem.W.Frag) (wi : TI) (src : St → St) (g : TG) (tts : TT) (t : TE) : TE := fun σ H Q => wi σ H fun J H1 => ∀ D, H1 D = none → K.lookup D = none → ∃ W : Nat → Nat → St → Hp → Prop,
  (∃ m, W 0 m (src σ) (upd H1 D (.lst []))) ∧ ∀ i m σ' H', W i m σ' H' →
    (J.stop i H' ∧ Q (.ref D) H') ∨ (J.go i H' ∧ ∃ N : St → Hp → Prop, (∀ σ' H', N σ' H' → ∃ m', m' < m ∧ W (i + 1) m' σ' H') ∧
      ∀ x H'', J.yld i H' x H'' → g x σ' H'' fun σ2 H2 => tts σ2 H2 fun b H3 => if b = true then t σ2 H3 (fun v H4 => ∃ ys, H4 D = some (.lst ys) ∧ ys.length < sizeLine ∧ N σ2 (upd H4 D (.lst (ys ++ [v])))) else N σ2 H3)
theorem relabel_lookup {scope : Scope} {env : Env} : ∀ {names : List (Str × NameKind)} {x : Str}, names.lookup x = some .free →
    ((names.map fun (n, k) => if (k == NameKind.free && env.scope.kind == .function && env.kindOf n == some .cell) then (n, NameKind.cell) else (n, k)).lookup x = some .cell ∨
     (names.map fun (n, k) => if (k == NameKind.free && env.scope.kind == .function && env.kindOf n == some .cell) then (n, NameKind.cell) else (n, k)).lookup x = some .free)
  | [], x, h => by simp at h
  | (n, k) :: r, x, h => by
    have ih := @relabel_lookup scope env r x
    show List.lookup x ((if (k == NameKind.free && env.scope.kind == .function && env.kindOf n == some .cell) = true then (n, NameKind.cell) else (n, k)) :: _) = _ ∨ List.lookup x ((if (k == NameKind.free && env.scope.kind == .function && env.kindOf n == some .cell) = true then (n, NameKind.cell) else (n, k)) :: _) = _
    cases hx : x == n with
    | true =>
      simp only [List.lookup_cons, hx] at h
      cases h
      by_cases hc : (NameKind.free == NameKind.free && env.scope.kind == .function && env.kindOf n == some .cell) = true
      · rw [if_pos hc]; simp [List.lookup_cons, hx]
      · rw [if_neg hc]; simp [List.lookup_cons, hx]
    | false =>
      simp only [List.lookup_cons, hx] at h
      by_cases hc : (k == NameKind.free && env.scope.kind == .function && env.kindOf n == some .cell) = true
      · rw [if_pos hc]; simp only [List.lookup_cons, hx]; exact ih h
      · rw [if_neg hc]; simp only [List.lookup_cons, hx]; exact ih h
structure CompSc (X : Cx) (N' : List Str) (scope : Scope) (src : St → St) : Prop where
  kind : scope.kind = .function
  nocell : ∀ y ∈ scope.names, y.2 ≠ .cell
  names : ∀ y ∈ scope.names, y.2 = .local → scope.names.lookup y.1 = some .local
  free : ∀ y ∈ scope.names, y.2 = .free → X.env.kindOf y.1 = some .cell ∨ X.env.kindOf y.1 = some .free
  rel : ∀ y, (relabel scope X.env).names.lookup y = some .cell ∨ (relabel scope X.env).names.lookup y = some .free → (y, NameKind.free) ∈ scope.names
  len : ∀ σ, (src σ).length = N'.length
  src : ∀ σ (i : Nat) v x, (src σ)[i]? = some (some v) → N'[i]? = some x → ∃ j : Nat, X.N[j]? = some x ∧ σ[j]? = some (some v) ∧ scope.names.lookup x = some .free
theorem comp_core {X : Cx} {N' : List Str} {elt iter tgt : Expr} {ifs : List Expr} {scope : Scope} {pos pos' : Pos} {use : Option (Value → Sem Unit)} {R : Value → Shared → Prop} {pins : List (Addr × Obj)} {s : Shared} {σ : St} {H : Hp} {Q : VK} {wi : TI} {src : St → St} {g : TG} {tts : TT} {t : TE} (hcalm : X.calm = true) (sc : CompSc X N' scope src)
    (hi : PI X tgt iter wi) (hg : ∀ C s H fp pins, PG (cxC X N' scope C s H fp pins) tgt g) (ht : ∀ C s H fp pins, PTs (cxC X N' scope C s H fp pins) ifs tts) (he : ∀ C s H fp pins, PE (cxC X N' scope C s H fp pins) elt t)
    (hs : ∀ x, foldedSetIterable iter X.env x = pure x) (I : Inv X pins σ H s) (h : tComp X.K wi src g tts t σ H Q)
    (fin : ∀ D H5 s6 C mC, Inv X pins σ H5 s6 → FpOk X pins H5 C → s6.heap.Ns C mC → Q (.ref D) H5 → compPost (model X.prog X.w) X.A X.xe use R (.ref D) C (.ok .next) s6) :
    wpAny (model X.prog X.w) X.A (comprehension (.ListComp elt [⟨tgt, iter, ifs, 0⟩] scope pos) scope X.env pos' (newList []) false (eval iter X.env) use) R X.xe s := by
  have hasC : ∀ x ∈ scope.names, x.2 = .free → ∃ c, X.env.cells.lookup x.1 = some c := fun x hx hf => I.ok.has x.1 (sc.free x hx hf)
  refine wpAny_comprehension_free (use := use) (env := X.env) rfl hs (closureFor_eq scope X.env hasC) sc.kind sc.names ?_
  show wpAny (model X.prog X.w) X.A (eval iter X.env) _ _ s
  refine wpAny_mono (hi pins s σ H _ I h) (fun v s1 h1 => wpAny_mono h1 (fun itv s2 h2 => ?_) fun _ _ z => z) fun _ _ z => z
  obtain ⟨it, fp, tn, J, H2, rfl, I2, T, st2, f2, q⟩ := h2
  refine wpAny_newObj_type ?_ (by show 0 ≤ sizeLine; exact Nat.zero_le _)
  have hD : H2 s2.heap.objs.size = none := I2.hok.fresh (Nat.le_refl _)
  have I3 : Inv X pins σ (upd H2 s2.heap.objs.size (.lst [])) { s2 with heap := s2.heap.push { cls := .type "list", data := .seq ([] : List Value).toArray } } := I2.lnew (t' := s2.toks) .nil (Nat.zero_le _)
  obtain ⟨W, ⟨m0, w0⟩, turn⟩ := q s2.heap.objs.size hD (by
    cases e : X.K.lookup s2.heap.objs.size with
    | none => rfl
    | some o => exact absurd (Heap.lt_size (I2.kIn _ o e)) (Nat.lt_irrefl _))
  refine wpAny_newFunctionEnv sc.nocell (by intro y hy; simp at hy) (fun h' hns hsb => ?_) sc.kind
  have fpIn : ∀ b ∈ fp, ∃ o, s2.heap.get? b = some o ∧ ∀ v, o.data ≠ .cell v := T.obj 0 s2.heap st2
  have fpD : ∀ b ∈ fp, b ≠ s2.heap.objs.size := fun b hb => let ⟨o, e, _⟩ := fpIn b hb; Nat.ne_of_lt (Heap.lt_size e)
  have f3 : ∀ b ∈ fp, FpOk X pins (upd H2 s2.heap.objs.size (.lst [])) b := fun b hb => ⟨by rw [upd_ne (fpD b hb)]; exact (f2 b hb).1, (f2 b hb).2⟩
  have st3 : tn 0 (s2.heap.push { cls := .type "list", data := .seq ([] : List Value).toArray }) := T.keep _ _ _ st2 fun b hb o e => Heap.get?_push_of_some _ e
  clear q hD h st2 f2 fpD
  generalize upd H2 s2.heap.objs.size (.lst []) = H3 at *
  generalize hDe : s2.heap.objs.size = D at *
  have fpIn3 : ∀ b ∈ fp, ∃ o, (s2.heap.push { cls := .type "list", data := .seq ([] : List Value).toArray }).get? b = some o ∧ ∀ v, o.data ≠ .cell v := T.obj 0 _ st3
  clear fpIn
  generalize s2.heap.push { cls := .type "list", data := .seq ([] : List Value).toArray } = h3 at *
  have old : ∀ b o, h3.get? b = some o → h'.get? b = some o := fun b o e => hsb.extBut b o (Nat.ne_of_lt (Heap.lt_size e)) (Heap.get?_push_of_some _ e)
  have stkNo : ∀ b, b ≠ X.env.locals → b ∉ X.fs → b ∉ frs X.stack := fun b h1 h2 hb => by
    rcases List.mem_cons.mp (I3.stkSub b hb) with z | z
    · exact h1 z
    · exact h2 z
  have sub := clOf_sub X.env scope.names [] (fun x c z => by simp at z)
  have cNe : ∀ b o, h3.get? b = some o → b ≠ h3.objs.size := fun b o e => Nat.ne_of_lt (Heap.lt_size e)
  have I4 : Inv (cxC X N' scope h3.objs.size { s2 with heap := h3 } H3 fp pins) [] (src σ) H3 { s2 with heap := h', toks := s2.toks + ([] : List (Str × Value)).length } := by
    refine ⟨⟨I3.ok.mod, sc.kind, I3.ok.glob, I3.ok.blt, Nat.le_refl _, fun x y c h1 h2 => I3.ok.inj x y c (sub x c h1) (sub y c h2), fun x hx => ?_, fun x c z => absurd (show false = true from z) Bool.false_ne_true, I3.ok.hd, I3.ok.frames, .inl rfl, fun b hb => ⟨?_, fun x c z => (f3 b hb).2.2.2.2.1 x c (sub x c z)⟩, fun b o e => I3.bs b o e, Nat.le_trans I3.ok.bsz I3.sz, fun b o e hb => ?_, fun b hb => stkNo b (f3 b hb).2.1 (f3 b hb).2.2.1, I3.stack, I3.stkFree⟩,
      rfl, I3.bare, Un.kept old, ⟨_, hns, fun i x v h1 h2 h3' => ?_⟩, fun x c z => ?_, I3.hok.fresh (Nat.le_refl _), fun x c z => I3.freeC x c (sub x c z), fun p hp => ?_, I3.hok.kept old, sc.len σ⟩
    · have hm := sc.rel x hx
      exact clOf_has X.env scope.names [] x (.inl hm) (hasC _ hm rfl)
    · obtain ⟨o, e, _⟩ := fpIn3 b hb
      exact cNe b o e
    · rcases (f3 b hb).2.2.2.1 with z | z
      · exact I3.ok.noex b o e z
      · have := Heap.lt_size (I3.ok.bs b o e).1
        exact absurd (Nat.lt_of_lt_of_le this z) (Nat.lt_irrefl _)
    · obtain ⟨j, e1, e2, e3⟩ := sc.src σ i v x h2 h1
      obtain ⟨m, hn, hl⟩ := I3.loc
      have hmem := PySem.mem_of_lookup e3
      have hk := sc.free (x, .free) hmem rfl
      have vis : Vis X.env.scope x := by
        rcases hk with k | k
        · exact .inr (.inl k)
        · exact .inr (.inr k)
      obtain ⟨u, r, lk⟩ := hl j x v e1 e2 vis
      refine ⟨u, r, .inr ⟨?_, ?_⟩⟩
      · exact relabel_lookup (scope := scope) e3
      · rcases lk with ⟨k, _⟩ | ⟨_, c, hc, hcell⟩
        · rcases hk with k' | k' <;> (rw [k] at k'; cases k')
        · obtain ⟨c', hc'⟩ := clOf_has X.env scope.names [] x (.inl hmem) ⟨c, hc⟩
          have := sub x c' hc'
          rw [hc] at this; cases this
          obtain ⟨o, ho, hd⟩ := hcell
          exact ⟨c, hc', o, old _ _ ho, hd⟩
    · obtain ⟨v, o, ho, hd⟩ := I3.cell x c (sub x c z)
      exact ⟨v, o, old _ _ ho, hd⟩
    · have hp' : p ∈ X.pn ++ pins := by simpa [cxC] using hp
      obtain ⟨e, n, ne, nf, d⟩ := I3.pin p hp'
      exact ⟨old _ _ e, n, cNe _ _ e, stkNo _ ne nf, d⟩
  have st4 : tn 0 h' := T.keep _ _ _ st3 fun b hb o e => old b o e
  have fr4 : ∀ b ∈ fp, H3 b = none := fun b hb => (f3 b hb).1
  have stat : ∀ {H' : Hp}, (∀ b ∈ fp, H' b = none) → ∀ b ∈ fp, FpOk (cxC X N' scope h3.objs.size { s2 with heap := h3 } H3 fp pins) [] H' b := fun hn b hb => by
    obtain ⟨g0, g1, g2, g3, g4, g5⟩ := f3 b hb
    obtain ⟨o, e, _⟩ := fpIn3 b hb
    exact ⟨hn b hb, cNe b o e, stkNo b g1 g2, .inl hb, fun x c z => g4 x c (sub x c z), fun p hp => g5 p (by simpa [cxC] using hp)⟩
  have loop : codeAny (model X.prog X.w) X.A (.compLoop (.ListComp elt [⟨tgt, iter, ifs, 0⟩] scope pos) 0 (.ref it) (.ref D) (compEnvC scope (clOf X.env scope.names []) h3.objs.size X.env))
      (compPost (model X.prog X.w) X.A X.xe use R (.ref D) h3.objs.size) { s2 with heap := h', toks := s2.toks + ([] : List (Str × Value)).length } := by
    refine compLoopG (fun n s' => ∃ i σ' H', Inv (cxC X N' scope h3.objs.size { s2 with heap := h3 } H3 fp pins) [] σ' H' s' ∧ tn i s'.heap ∧ (∀ b ∈ fp, H' b = none) ∧ W i n σ' H') ?_ m0 ⟨0, src σ, H3, I4, st4, fr4, w0⟩
    rintro n s5 ⟨i, σ5, H5, I5, st5, fr5, w5⟩
    rcases turn i n σ5 H5 w5 with ⟨stop, qn⟩ | ⟨go, N, hN, step⟩
    · refine wpAny_mono (T.done (cxC X N' scope h3.objs.size { s2 with heap := h3 } H3 fp pins) rfl rfl rfl hcalm i [] s5 σ5 H5 (fun _ _ => False) I5 (stat fr5) st5 stop) (fun r s6 hr => ?_) fun _ _ z => z
      obtain ⟨hr, I6⟩ := hr
      subst hr
      obtain ⟨mC, hnC, _⟩ := I6.loc
      have IX : Inv X pins σ H5 s6 := I3.call' (s' := s6) (ch := fp) I6.os I6.base I6.hok I6.bare fun b hb => ⟨(f3 b hb).2.2.2.1, (f3 b hb).2.1, (f3 b hb).2.2.2.2.1, (f3 b hb).2.2.2.2.2⟩
      exact fin D H5 s6 h3.objs.size mC IX (I3.fpOk (Nat.le_refl _) I6.free) hnC qn
    · refine wpAny_mono (T.item (cxC X N' scope h3.objs.size { s2 with heap := h3 } H3 fp pins) rfl rfl rfl hcalm i [] s5 σ5 H5 (fun _ _ => False) I5 (stat fr5) st5 go) (fun r s6 hr => ?_) fun _ _ z => z
      obtain ⟨u, hr, h6⟩ := hr
      subst hr
      refine wpAny_mono h6 (fun _ s7 h7 => ?_) fun _ _ z => z
      obtain ⟨x, H7, I7, r7, y7, st7, fr7⟩ := h7
      have I7' := I7.pinned (stat fr7) (T.obj _ _ st7)
      refine wpAny_mono (hg _ _ _ _ _ _ s7 σ5 H7 x u _ I7' r7 (step x H7 y7)) (fun _ s8 h8 => ?_) fun _ _ z => z
      obtain ⟨σ8, H8, I8, q8⟩ := h8
      have again : ∀ {H9 : Hp} {s9 : Shared}, Inv (cxC X N' scope h3.objs.size { s2 with heap := h3 } H3 fp pins) ([] ++ pinsAt fp s7.heap) σ8 H9 s9 → N σ8 H9 → ∃ m, m < n ∧ ∃ i σ' H', Inv (cxC X N' scope h3.objs.size { s2 with heap := h3 } H3 fp pins) [] σ' H' s9 ∧ tn i s9.heap ∧ (∀ b ∈ fp, H' b = none) ∧ W i m σ' H' := fun {H9 s9} I9 n9 => by
        obtain ⟨m', hm, w9⟩ := hN σ8 H9 n9
        refine ⟨m', hm, i + 1, σ8, H9, I9.unpinned, T.keep _ _ _ st7 fun b hb o e => (I9.pin (b, o) (List.mem_append_right _ (List.mem_append_right _ (mem_pinsAt hb e)))).1, fun b hb => ?_, w9⟩
        obtain ⟨o, e, d⟩ := T.obj _ _ st7 b hb
        exact (I9.pin (b, o) (List.mem_append_right _ (List.mem_append_right _ (mem_pinsAt hb e)))).2.1
      refine wpAny_mono (ht _ _ _ _ _ _ s8 σ8 H8 _ I8 q8) (fun ok s9 h9 => ?_) fun _ _ z => z
      obtain ⟨H9, I9, q9⟩ := h9
      cases ok with
      | false => exact again I9 q9
      | true =>
        refine wpAny_mono (he _ _ _ _ _ _ s9 σ8 H9 _ I9 q9) (fun y s10 h10 => ?_) fun _ _ z => z
        obtain ⟨vy, H10, I10, r10, ys, hys, hz, nx⟩ := h10
        refine wpAny_mono (mt_append (X := cxC X N' scope h3.objs.size { s2 with heap := h3 } H3 fp pins) _ s10 σ8 H10 (.ref D) [vy] (.ref D) [y] (fun _ H' => N σ8 H') I10 rfl (.cons r10 .nil) ⟨D, ys, vy, rfl, rfl, hys, hz, nx⟩) (fun _ s11 h11 => ?_) fun _ _ z => z
        obtain ⟨_, H11, I11, _, n11⟩ := h11
        exact again I11 n11
  exact codeAny_compStart_list loop (T.self _ 0 _ _ _ st4 loop)
theorem pe_comp {X : Cx} {N' : List Str} {elt iter tgt : Expr} {ifs : List Expr} {scope : Scope} {pos : Pos} {wi : TI} {src : St → St} {g : TG} {tts : TT} {t : TE} (hcalm : X.calm = true) (sc : CompSc X N' scope src)
    (hi : PI X tgt iter wi) (hg : ∀ C s H fp pins, PG (cxC X N' scope C s H fp pins) tgt g) (ht : ∀ C s H fp pins, PTs (cxC X N' scope C s H fp pins) ifs tts) (he : ∀ C s H fp pins, PE (cxC X N' scope C s H fp pins) elt t)
    (hs : ∀ x, foldedSetIterable iter X.env x = pure x := by intro _; rfl) : PE X (.ListComp elt [⟨tgt, iter, ifs, 0⟩] scope pos) (tComp X.K wi src g tts t) := by
  intro pins s σ H Q I h
  rw [eval_ListComp]
  refine comp_core (use := none) hcalm sc hi hg ht he hs I h fun D H5 s6 C mC IX fp hn q => ⟨mC, hn, fun h'' sb => ⟨.ref D, H5, ?_, rfl, q⟩⟩
  exact IX.turned (t' := s6.toks) (fun b o hb e => sb.extBut b o hb e) fp.1 fp.2.1 fp.2.2.2.1 fp.2.2.2.2.1 fp.2.2.2.2.2
end L3
namespace L3
open PySem PySem.Spec PyProof.Rows L2
section
variable {K : PySem.W.Frag} {ρ ρ' : List Addr} {H H' : Hp} {S : Sto}
theorem Sim.notin {a : Addr} (s : Sim K ρ S H) (h1 : H a = none) (h2 : K.lookup a = none) : ∀ n : Nat, ρ[n]? ≠ some a := fun n hn => by
  have hl : n < S.length := by rw [← s.len]; exact (List.getElem?_eq_some_iff.mp hn).1
  have q := s.at' n a _ hn (List.getElem?_eq_getElem hl)
  cases e : S[n] with
  | lst xs => rw [e] at q; obtain ⟨vs, z, _⟩ := q; rw [h1] at z; cases z
  | flst xs =>
    rw [e] at q
    obtain ⟨vs, z, _⟩ := q
    rcases z with ⟨o, z⟩ | ⟨o, _, _, z, _⟩
    · rw [h1] at z; cases z
    · rw [h2] at z; cases z
  | iset g m => rw [e] at q; have q : H a = _ := q; rw [h1] at q; cases q
  | dct kvs => rw [e] at q; obtain ⟨vs, z, _⟩ := q; rw [h1] at z; cases z
  | tdct kvs => rw [e] at q; obtain ⟨vs, z, _⟩ := q; rw [h1] at z; cases z
  | fdct kvs => rw [e] at q; obtain ⟨o, vs, z, _⟩ := q; rw [h1] at z; cases z
  | ftdct kvs => rw [e] at q; obtain ⟨o, vs, z, _⟩ := q; rw [h1] at z; cases z
  | tset ks => rw [e] at q; obtain ⟨xs, _, z, _⟩ := q; rw [h1] at z; cases z
  | fnc x => rw [e] at q; obtain ⟨_, o, z⟩ := q; rw [h2] at z; cases z
  | exc c => rw [e] at q; obtain ⟨C, _, z⟩ := q; rw [h1] at z; cases z
theorem Sim.adopt {a : Addr} {xs : List D} {vs : List V} (s : Sim K ρ S H) (ha : H a = some (.lst vs)) (hn : ∀ n : Nat, ρ[n]? ≠ some a) (r : RDs ρ H xs vs) : Sim K (ρ ++ [a]) (S ++ [.lst xs]) H := by
  refine ⟨by simp [s.len], fun i j b x1 x2 h1 h2 h3 h4 m1 m2 => ?_, fun n b o h1 h2 => ?_⟩
  · rcases get_push h1 with g1 | ⟨e1, f1⟩ <;> rcases get_push h2 with g2 | ⟨e2, f2⟩
    · rcases get_push h3 with h3 | ⟨e3, _⟩ <;> rcases get_push h4 with h4 | ⟨e4, _⟩
      · exact s.nd i j b _ _ g1 g2 h3 h4 m1 m2
      · have := (List.getElem?_eq_some_iff.mp g2).1; have := s.len; omega
      · have := (List.getElem?_eq_some_iff.mp g1).1; have := s.len; omega
      · omega
    · subst f2; exact absurd g1 (hn i)
    · subst f1; exact absurd g2 (hn j)
    · omega
  · rcases get_push h1 with h1 | ⟨e1, f1⟩
    · rcases get_push h2 with h2 | ⟨e2, f2⟩
      · exact (s.at' n b o h1 h2).more ext0_push
      · have := (List.getElem?_eq_some_iff.mp h1).1; have := s.len; omega
    · subst f1
      rcases get_push h2 with h2 | ⟨e2, f2⟩
      · have := (List.getElem?_eq_some_iff.mp h2).1; have := s.len; omega
      · subst f2
        exact ⟨vs, ha, r.mono0 ext0_push⟩
theorem Sim.beside {a : Addr} {ys : List V} {u : HO} (s : Sim K ρ S H) (ha : H a = some (.lst ys)) (hn : ∀ n : Nat, ρ[n]? ≠ some a) : Sim K ρ S (upd H a u) :=
  ⟨s.len, s.nd, fun n b o h1 h2 => (s.at' n b o h1 h2).written ha fun _ z => hn n (by rw [h1, z])⟩
theorem Ext.beside {a : Addr} {ys : List V} {u : HO} {ρ0 : List Addr} {H0 : Hp} (e : Ext ρ0 H0 ρ H) (h0 : H0 a = none) (ha : H a = some (.lst ys)) : Ext ρ0 H0 ρ (upd H a u) :=
  ⟨⟨e.pre, fun b vs h => by rw [upd_ne (ne_of (e.tup b vs h) ha (by intro z; cases z))]; exact e.tup b vs h, fun b o vs h => by rw [upd_ne (ne_of (e.frz b o vs h) ha (by intro z; cases z))]; exact e.frz b o vs h⟩, fun b vs h n => ⟨by rw [upd_ne (ne_of_none h h0)]; exact (e.out b vs h n).1, (e.out b vs h n).2⟩⟩
theorem Ext.adopt {a : Addr} {ρ0 : List Addr} {H0 : Hp} (e : Ext ρ0 H0 ρ H) (h0 : H0 a = none) : Ext ρ0 H0 (ρ ++ [a]) H :=
  ⟨⟨fun n b h => (ext0_push (H := H)).pre n b (e.pre n b h), e.tup, e.frz⟩, fun b vs h n => ⟨(e.out b vs h n).1, fun i hi => by
    rcases get_push hi with hi | ⟨_, z⟩
    · exact (e.out b vs h n).2 i hi
    · rw [z, h0] at h; cases h⟩⟩
end
abbrev ItM := Nat → Sto → Option (Option D)
abbrev IM := Lo → Sto → Option (ItM × Nat × Sto)
def ItOk (K : PySem.W.Frag) (ρ : List Addr) (H : Hp) (it : ItM) (J : It) : Prop := ∀ (i : Nat) ρ' S' H', Ext ρ H ρ' H' → Sim K ρ' S' H' →
  (it i S' = some none → J.stop i H') ∧ ∀ x, it i S' = some (some x) → J.go i H' ∧ ∀ y H'', J.yld i H' y H'' → H'' = H' ∧ RD ρ' H' x y
def ti (K : PySem.W.Frag) (im : IM) : TI := fun σ H R => ∃ ρ l S it k S', Sim K ρ S H ∧ RO ρ H l σ ∧ im l S = some (it, k, S') ∧ ∀ ρ' H' J, Ext ρ H ρ' H' → Sim K ρ' S' H' → ItOk K ρ' H' it J → R J H'
def PI3 (X : Cx) (tgt iter : Expr) (im : IM) : Prop := PI X tgt iter (ti X.K im)
theorem PI.imp {X : Cx} {tgt iter : Expr} {t u : TI} (h : PI X tgt iter t) (i : ∀ σ H R, u σ H R → t σ H R) : PI X tgt iter u := fun pins s σ H Q I q => h pins s σ H Q I (i _ _ _ q)
def itX (xs : List D) : ItM := fun i _ => some xs[i]?
def itL (n : Nat) : ItM := fun i S => (lstOf S n).bind fun xs => some xs[i]?
def iVal (e : EM) : IM := fun l S => (e l S).bind fun p => match p.1 with
  | .tup xs => some (itX xs, xs.length + 1, p.2)
  | .ref n => (lstOf p.2 n).bind fun xs => some (itL n, xs.length + 1, p.2)
  | _ => none
def iRng (r : Lo → Sto → Option ((Int × Nat) × Sto)) : IM := fun l S => (r l S).bind fun p => some (itX (rngD p.1.1 p.1.2), p.1.2 + 1, p.2)
section
variable {K : PySem.W.Frag}
theorem itok_tup {ρ : List Addr} {H : Hp} {a : Addr} {xs : List D} {vs : List V} (ha : H a = some (.tup vs)) (r : RDs ρ H xs vs) : ItOk K ρ H (itX xs) (Itt K a) := by
  intro i ρ' S' H' e s
  have ha' := SqT.of (K := K) (e.tup _ _ ha)
  have r' := r.mono e
  refine ⟨fun h => ?_, fun x h => ?_⟩
  · have h : xs[i]? = none := Option.some.inj h
    exact ⟨vs, ha', by rw [← r.length]; exact List.getElem?_eq_none_iff.mp h⟩
  · have h : xs[i]? = some x := Option.some.inj h
    obtain ⟨v, hv, rv⟩ := r'.get h
    refine ⟨⟨vs, v, ha', hv⟩, fun y H'' ⟨e1, e2⟩ => ⟨e1, ?_⟩⟩
    have := e2 vs ha'
    rw [hv] at this; cases this
    exact rv
theorem itok_lst {ρ : List Addr} {H : Hp} {a : Addr} {n : Nat} (ha : ρ[n]? = some a) : ItOk K ρ H (itL n) (Itl K a) := by
  intro i ρ' S' H' e s
  have ha' := e.pre _ _ ha
  refine ⟨fun h => ?_, fun x h => ?_⟩
  · obtain ⟨xs, h1, h⟩ := bnd h
    have h : xs[i]? = none := Option.some.inj h
    obtain ⟨b, vs, hb, sq, r⟩ := s.lstOf h1
    rw [ha'] at hb; cases hb
    exact ⟨vs, sq, by rw [← r.length]; exact List.getElem?_eq_none_iff.mp h⟩
  · obtain ⟨xs, h1, h⟩ := bnd h
    have h : xs[i]? = some x := Option.some.inj h
    obtain ⟨b, vs, hb, sq, r⟩ := s.lstOf h1
    rw [ha'] at hb; cases hb
    obtain ⟨v, hv, rv⟩ := r.get h
    refine ⟨⟨vs, v, sq, hv⟩, fun y H'' ⟨e1, e2⟩ => ⟨e1, ?_⟩⟩
    have := e2 vs sq
    rw [hv] at this; cases this
    exact rv
theorem itok_rng {ρ : List Addr} {H : Hp} {lo : Int} {n : Nat} : ItOk K ρ H (itX (rngD lo n)) (Itr lo n) := by
  intro i ρ' S' H' e s
  refine ⟨fun h => ?_, fun x h => ?_⟩
  · have h : (rngD lo n)[i]? = none := Option.some.inj h
    have := List.getElem?_eq_none_iff.mp h
    simp [rngD] at this
    exact this
  · have h : (rngD lo n)[i]? = some x := Option.some.inj h
    have hl := (List.getElem?_eq_some_iff.mp h).1
    simp only [rngD, List.length_map, List.length_range] at hl
    refine ⟨hl, fun y H'' ⟨e1, e2⟩ => ⟨e1, ?_⟩⟩
    unfold rngD at h
    rw [List.getElem?_map, List.getElem?_range hl] at h
    cases h
    rw [e2]
    exact .int _
end
section
variable {X : Cx} {tgt iter : Expr} {m : EM} {mA : AM} {p0 pos' : Pos} {a a2 : Expr}
theorem i3_val (hi : PE3 X iter m) : PI3 X tgt iter (iVal m) := PI.imp (PI.or (pi_list hi) (pi_tup hi)) fun σ H R ⟨ρ, l, S, it, k, S', sim, ro, hm, p⟩ => by
  obtain ⟨⟨x, S1⟩, q1, hm⟩ := bnd hm
  dsimp only at hm
  split at hm
  · rename_i xs
    cases hm
    refine .inr ⟨ρ, l, S, .tup xs, _, sim, ro, q1, fun ρ1 H1 x' e1 s1 r1 => ?_⟩
    cases r1 with
    | @tup xs a vs ha r => exact ⟨a, rfl, ⟨vs, SqT.of ha⟩, p ρ1 H1 _ e1 s1 (itok_tup ha r)⟩
  · rename_i n
    obtain ⟨xs, hx, hm⟩ := bnd hm
    cases hm
    refine .inl ⟨ρ, l, S, .ref n, _, sim, ro, q1, fun ρ1 H1 x' e1 s1 r1 => ?_⟩
    obtain ⟨a, vs, ha, sq, rv⟩ := s1.lstOf hx
    cases r1 with
    | ref hn =>
      rw [ha] at hn; cases hn
      exact ⟨a, rfl, ⟨vs, sq⟩, p ρ1 H1 _ e1 s1 (itok_lst ha)⟩
  · cases hm
theorem i3_rng1 (hgl : Gl X "range") (hmg : X.mg "range" = none) (ha : PA3 X [a] mA) (hst : starEach [a] X.env = [(false, eval a X.env)] := by rfl) : PI3 X tgt (.Call (.Name "range" p0) [a] [] pos') (iRng (rng1 mA)) :=
  PI.imp (pi_range1 hgl hmg ha hst) fun σ H R ⟨ρ, l, S, it, k, S', sim, ro, hm, p⟩ => by
    obtain ⟨⟨⟨lo, n⟩, S1⟩, q1, hm⟩ := bnd hm
    cases hm
    obtain ⟨⟨xs, S2⟩, q2, q1⟩ := bnd q1
    dsimp only at q1
    split at q1
    · rename_i j
      obtain ⟨hz, e⟩ := ite_some q1
      cases e
      refine ⟨ρ, l, S, [.int j], _, sim, ro, q2, fun ρ1 H1 vs e1 s1 r1 => ?_⟩
      obtain ⟨v, rfl, rv⟩ := r1.one
      cases rv
      exact ⟨j, rfl, hz.1, hz.2, p ρ1 H1 _ e1 s1 itok_rng⟩
    · cases q1
end
def compG (it : ItM) (g : GM) (t : TM) (e : EM) : Nat → Nat → Lo → Sto → Option (List D × Sto)
  | 0, _, _, _ => none
  | k + 1, i, l, S => (it i S).bind fun o => match o with
    | none => some ([], S)
    | some x => (g x l S).bind fun p => (t p.1 p.2).bind fun q => if q.1 = true then (e p.1 q.2).bind fun r => (compG it g t e k (i + 1) p.1 r.2).bind fun z => some (r.1 :: z.1, z.2) else compG it g t e k (i + 1) p.1 q.2
def srcL {α : Type} (ixs : List (Option Nat)) (l : List (Option α)) : List (Option α) := ixs.map fun o => match o with
  | some j => (l[j]?).join
  | none => none
def eComp (im : IM) (ixs : List (Option Nat)) (g : GM) (t : TM) (e : EM) : EM := fun l S => (im l S).bind fun p => (compG p.1 g t e p.2.1 0 (srcL ixs l) p.2.2).bind fun z => if z.1.length ≤ sizeLine then some (.ref z.2.length, z.2 ++ [.lst z.1]) else none
def tTrue : TM := fun _ S => some (true, S)
theorem srcL_ro {ρ : List Addr} {H : Hp} {l : Lo} {σ : St} (ixs : List (Option Nat)) (r : RO ρ H l σ) : RO ρ H (srcL ixs l) (srcL ixs σ) := by
  refine ⟨by simp [srcL], fun i d h => ?_⟩
  unfold srcL at h ⊢
  rw [List.getElem?_map] at h ⊢
  cases e : ixs[i]? with
  | none => rw [e] at h; cases h
  | some o =>
    rw [e] at h
    cases o with
    | none => cases h
    | some j =>
      have h : ((l[j]?).join : Option D) = some d := Option.some.inj h
      cases e2 : l[j]? with
      | none => rw [e2] at h; cases h
      | some o2 =>
        rw [e2] at h
        have h : o2 = some d := h
        subst h
        obtain ⟨v, h1, h2⟩ := r.get j d e2
        exact ⟨v, by show some ((σ[j]?).join) = _; rw [h1]; rfl, h2⟩
theorem comp3 {K : PySem.W.Frag} {im : IM} {ixs : List (Option Nat)} {g : GM} {t : TM} {e : EM} (σ : St) (H : Hp) (Q : VK) (q : te K (eComp im ixs g t e) σ H Q) : tComp K (ti K im) (srcL ixs) (tg K g) (tt K t) (te K e) σ H Q := by
  obtain ⟨ρ, l, S, v, S', sim, ro, hm, p⟩ := q
  obtain ⟨⟨it, k, S1⟩, q1, hm⟩ := bnd hm
  obtain ⟨⟨all, S2⟩, q2, hm⟩ := bnd hm
  obtain ⟨hz, he⟩ := ite_some hm
  cases he
  refine ⟨ρ, l, S, it, k, S1, sim, ro, q1, fun ρ1 H1 J e1 s1 io D hD hK => ?_⟩
  dsimp only at q2 hz p
  refine ⟨fun i m σ' H' => ∃ ρ' l' S' ds vs rest, Ext ρ1 H1 ρ' H' ∧ Sim K ρ' S' H' ∧ RO ρ' H' l' σ' ∧ H' D = some (.lst vs) ∧ (∀ n : Nat, ρ'[n]? ≠ some D) ∧ RDs ρ' H' ds vs ∧ compG it g t e m i l' S' = some (rest, S2) ∧ ds ++ rest = all, ⟨k, ?_⟩, ?_⟩
  · exact ⟨ρ1, srcL ixs l, S1, [], [], all, ext_new hD, s1.laid hD, (srcL_ro ixs (ro.mono e1)).mono (ext_new hD), upd_same, s1.notin hD hK, .nil, q2, rfl⟩
  · rintro i m σ' H' ⟨ρ', l', S', ds, vs, rest, e2, s2, ro2, hD2, hn2, rd2, hc, hall⟩
    cases m with
    | zero => cases hc
    | succ m =>
      unfold compG at hc
      obtain ⟨o, ho, hc⟩ := bnd hc
      obtain ⟨iStop, iGo⟩ := io i ρ' S' H' e2 s2
      cases o with
      | none =>
        cases hc
        rw [List.append_nil] at hall
        subst hall
        refine .inl ⟨iStop ho, p (ρ' ++ [D]) H' (.ref D) (e1.trans (e2.adopt hD)) (s2.adopt hD2 hn2 rd2) (.ref ?_)⟩
        rw [← s2.len]; exact get_self ρ' D
      | some x =>
        obtain ⟨⟨l3, S3⟩, q3, hc⟩ := bnd hc
        obtain ⟨⟨b, S4⟩, q4, hc⟩ := bnd hc
        obtain ⟨hgo, hy⟩ := iGo x ho
        refine .inr ⟨hgo, _, fun σ' H' h => h, fun y H'' hyl => ?_⟩
        obtain ⟨rfl, ry⟩ := hy y H'' hyl
        refine ⟨ρ', l', S', x, l3, S3, s2, ro2, ry, q3, fun ρ3 H3 σ3 e3 s3 ro3 => ⟨ρ3, l3, S3, b, S4, s3, ro3, q4, fun ρ4 H4 e4 s4 => ?_⟩⟩
        obtain ⟨hD3, hn3⟩ := e3.out D _ hD2 hn2
        obtain ⟨hD4, hn4⟩ := e4.out D _ hD3 hn3
        cases b with
        | false => exact iteF ⟨m, Nat.lt_succ_self m, ρ4, l3, S4, ds, vs, rest, e2.trans (e3.trans e4), s4, ro3.mono e4, hD4, hn4, rd2.mono (e3.trans e4), hc, hall⟩
        | true =>
          have hc : ((e l3 S4).bind fun r => (compG it g t e m (i + 1) l3 r.2).bind fun z => some (r.1 :: z.1, z.2)) = some (rest, S2) := hc
          obtain ⟨⟨y5, S5⟩, q5, hc⟩ := bnd hc
          obtain ⟨⟨rest', S6⟩, q6, hc⟩ := bnd hc
          cases hc
          refine iteT ⟨ρ4, l3, S4, y5, S5, s4, ro3.mono e4, q5, fun ρ5 H5 v5 e5 s5 r5 => ?_⟩
          obtain ⟨hD5, hn5⟩ := e5.out D _ hD4 hn4
          have e25 := e2.trans (e3.trans (e4.trans e5))
          have rd5 := rd2.mono (e3.trans (e4.trans e5))
          have hlen : vs.length < sizeLine := by
            have h1 := rd5.length
            have h2 := congrArg List.length hall
            rw [List.length_append, List.length_cons] at h2
            omega
          refine ⟨vs, hD5, hlen, m, Nat.lt_succ_self m, ρ5, l3, S5, ds ++ [y5], vs ++ [v5], rest', e25.beside hD hD5, s5.beside hD5 hn5, ?_, upd_same, hn5, ((rd5.append (.cons r5 .nil)).mono0 (ext0_upd hD5)), q6, by rw [← hall]; simp⟩
          have r0 := (ro3.mono e4).mono e5
          exact ⟨r0.len, fun i d h => let ⟨w, h1, h2⟩ := r0.get i d h; ⟨w, h1, h2.mono0 (ext0_upd hD5)⟩⟩
theorem pts3_nil {X : Cx} : PTs X [] (tt X.K tTrue) := fun pins s σ H Q I ⟨ρ, l, S, v, S', sim, ro, hm, p⟩ => by
  cases hm
  exact pts_nil pins s σ H Q I (p ρ H (Ext.refl ..) sim)
theorem p3_comp {X : Cx} {N' : List Str} {elt iter tgt : Expr} {ifs : List Expr} {scope : Scope} {pos : Pos} {im : IM} {ixs : List (Option Nat)} {g : GM} {t : TM} {e : EM} (hcalm : X.calm = true) (sc : CompSc X N' scope (srcL ixs))
    (hi : PI3 X tgt iter im) (hg : ∀ C s H fp pins, PG3 (cxC X N' scope C s H fp pins) tgt g) (ht : ∀ C s H fp pins, PTs (cxC X N' scope C s H fp pins) ifs (tt X.K t)) (he : ∀ C s H fp pins, PE3 (cxC X N' scope C s H fp pins) elt e)
    (hs : ∀ x, foldedSetIterable iter X.env x = pure x := by intro _; rfl) : PE3 X (.ListComp elt [⟨tgt, iter, ifs, 0⟩] scope pos) (eComp im ixs g t e) :=
  PE.imp (pe_comp (g := tg X.K g) (tts := tt X.K t) (t := te X.K e) hcalm sc hi hg ht he hs) comp3
end L3
namespace L3
open PySem PySem.Spec PyProof.Rows L2
def dPlus : D → D → Sto → Option (D × Sto)
  | .int i, .int j, S => some (.int (i + j), S)
  | .tup xs, .tup ys, S => if xs.length + ys.length ≤ sizeLine then some (.tup (xs ++ ys), S) else none
  | .ref n, .ref m, S => match S[n]?, S[m]? with
    | some (.lst xs), some (.lst ys) => if xs.length + ys.length ≤ sizeLine then some (.ref S.length, S ++ [.lst (xs ++ ys)]) else none
    | _, _ => none
  | _, _, _ => none
theorem op3_plus {K : PySem.W.Frag} : Op3 K dPlus (fun x y H Q => rI0 (fun i j => .int (i + j)) x y H Q ∨ (rCatT K x y H Q ∨ rCatT0 K x y H Q) ∨ rCat x y H Q) := by
  intro ρ S H x y x' y' v S' Q sim rx ry h p
  unfold dPlus at h
  split at h
  · cases rx; cases ry; cases h
    exact .inl ⟨_, _, rfl, rfl, p ρ H _ (Ext.refl ..) sim (.int _)⟩
  · refine .inr (.inl (op3_catT ρ S H _ _ x' y' v S' Q sim rx ry ?_ p))
    unfold dCatT
    exact h
  · split at h
    · rename_i xs ys e1 e2
      obtain ⟨hz, e⟩ := ite_some h
      cases e
      obtain ⟨a, us, ha, hH, r2⟩ := sim.lst e1
      obtain ⟨b, ws, hb, hH2, r3⟩ := sim.lst e2
      cases rx with
      | ref hn =>
        rw [ha] at hn; cases hn
        cases ry with
        | ref hm =>
          rw [hb] at hm; cases hm
          exact .inr (.inr ⟨a, b, us, ws, rfl, rfl, hH, hH2, by rw [← r2.length, ← r3.length]; exact hz, new_lst sim (r2.append r3) p⟩)
    · cases h
  · cases h
section
variable {X : Cx} {a b : Expr} {ma mb : EM} {pos : Pos}
end
def Has (P : Program) (w : World) (K : PySem.W.Frag) (mg : Str → Option Value) (base : Heap) (x : Str) (k n : Nat) (m : FM) : Prop :=
  ∃ (f : Addr) (fd : FuncData) (ps : List Str), FnOk P w K mg base CX0 k f fd ps (sp3 K n m) ∧ mg x = some (.ref f) ∧ PySem.W.keepIn K (.ref f) = true ∧ Binds K fd ps []
section
variable {X : Cx} {a : Expr} {es : List Expr} {mA : AM} {pos p : Pos} {x : Str} {k j n : Nat} {m : FM}
theorem p3_fn (F : Has X.prog X.w X.K X.mg X.base x k n m) (hr : Room j X.A) (hkj : k ≤ j) (hg : Gl X x)
    (ha : PA3 X (a :: es) mA) (hl : ∀ l S v S', mA l S = some (v, S') → v.length = n) (hdb : (x == ("__debug__" : Str)) = false := by decide) (he : starEach (a :: es) X.env = (false, eval a X.env) :: starEach es X.env := by rfl) (hpl : (backTo pos (starEach es X.env)).any (·.1) = false := by rfl) :
    PE3 X (.Call (.Name x p) (a :: es) [] pos) (eCall m mA) := by
  obtain ⟨f, fd, ps, F, hm, hk, hb⟩ := F
  exact p3_call F (hr.mono hkj) hg hm hk hb ha hl hdb he hpl
theorem boot_abs' : bootBuiltins "abs" = some (.builtin "abs") := by decide +kernel
theorem boot_tuple' : bootBuiltins "tuple" = some (.type "tuple") := by decide +kernel
theorem boot_list' : bootBuiltins "list" = some (.type "list") := by decide +kernel
theorem p3_abs (hg : Gl X "abs") (hm : X.mg "abs" = none) (ha : PA3 X (a :: es) mA) (he : starEach (a :: es) X.env = (false, eval a X.env) :: starEach es X.env := by rfl) (hpl : (backTo pos (starEach es X.env)).any (·.1) = false := by rfl) : PE3 X (.Call (.Name "abs" p) (a :: es) [] pos) (eCall fAbs mA) :=
  p3_callB call_abs fn3_abs hg hm boot_abs' ha (by decide) (by decide) he hpl
theorem p3_tuple1 (hg : Gl X "tuple") (hm : X.mg "tuple" = none) (ha : PA3 X (a :: es) mA) (he : starEach (a :: es) X.env = (false, eval a X.env) :: starEach es X.env := by rfl) (hpl : (backTo pos (starEach es X.env)).any (·.1) = false := by rfl) : PE3 X (.Call (.Name "tuple" p) (a :: es) [] pos) (eCall fTuple mA) :=
  p3_callTy call_tuple_of fn3_tuple hg hm boot_tuple' ha (by decide) (by decide) he hpl
theorem p3_list1 (hg : Gl X "list") (hm : X.mg "list" = none) (ha : PA3 X (a :: es) mA) (he : starEach (a :: es) X.env = (false, eval a X.env) :: starEach es X.env := by rfl) (hpl : (backTo pos (starEach es X.env)).any (·.1) = false := by rfl) : PE3 X (.Call (.Name "list" p) (a :: es) [] pos) (eCall fList mA) :=
  p3_callTy call_list_of fn3_list hg hm boot_list' ha (by decide) (by decide) he hpl
end
theorem has_of {P : Program} {w : World} {K : PySem.W.Frag} {mg : Str → Option Value} {base : Heap} {x : Str} {st : Stmt} {f : Addr} {fd : FuncData} {N ps : List Str} {k n : Nat} {b : SM} (F : Fun K x x st f fd) (hm : mg x = some (.ref f)) (S : FnScope N ps (defScope st)) (hn : ps.length = n) (hb : Binds K fd ps [])
    (hbody : ∀ (cdv : Value), PySem.W.codeIn K cdv x = true → ∀ (A : Around) (outer : List Env) (s : Shared) (H : Hp) (E : XK), Room k (A.deeper (envOfC x (defScope st) s.heap.objs.size f cdv)) →
      PSs3 (cxOf CX0 P w K mg base N x (defScope st) f cdv A outer s H E).nox (defBody st) b) : Has P w K mg base x (k + 1) n (runB N.length b) :=
  ⟨f, fd, ps, fun3 F S hn hbody, hm, F.kp, hb⟩
def chk (scO scope : Scope) (NO N' : List Str) (ixs : List (Option Nat)) : Bool :=
  decide (scope.kind = .function) && (scope.names.all fun y => y.2 != .cell) && (scope.names.all fun y => y.2 != .local || scope.names.lookup y.1 == some .local) &&
  (scope.names.all fun y => y.2 != .free || (scO.names.lookup y.1 == some .cell || scO.names.lookup y.1 == some .free)) && (ixs.length == N'.length) &&
  ((List.range ixs.length).all fun i => match ixs[i]? with | some (some j) => (NO[j]? == N'[i]? && (match N'[i]? with | some x => scope.names.lookup x == some .free | none => false)) | _ => true)
theorem compSc_of {X : Cx} {scO scope : Scope} {NO N' : List Str} {ixs : List (Option Nat)} (hX : X.env.scope = scO) (hN : X.N = NO) (h : chk scO scope NO N' ixs = true) : CompSc X N' scope (srcL ixs) := by
  unfold chk at h
  simp only [Bool.and_eq_true, decide_eq_true_eq, List.all_eq_true, beq_iff_eq, Bool.or_eq_true, bne_iff_ne, ne_eq] at h
  obtain ⟨⟨⟨⟨⟨h1, h2⟩, h3⟩, h4⟩, h5⟩, h6⟩ := h
  refine ⟨h1, h2, fun y hy hl => ?_, fun y hy hl => ?_, fun y hy => ?_, fun σ => by simp [srcL, h5], fun σ i v x hv hx => ?_⟩
  · rcases h3 y hy with z | z
    · exact absurd hl z
    · exact z
  · show X.env.scope.names.lookup y.1 = _ ∨ X.env.scope.names.lookup y.1 = _
    rw [hX]
    rcases h4 y hy with z | z
    · exact absurd hl z
    · exact z
  · have mem : ∃ k, (k = NameKind.cell ∨ k = NameKind.free) ∧ (y, k) ∈ (relabel scope X.env).names := by
      rcases hy with z | z
      · exact ⟨_, .inl rfl, PySem.mem_of_lookup z⟩
      · exact ⟨_, .inr rfl, PySem.mem_of_lookup z⟩
    obtain ⟨k, hk, hm⟩ := mem
    unfold relabel at hm
    obtain ⟨⟨n, k'⟩, hm1, hm2⟩ := List.mem_map.mp hm
    dsimp only at hm2
    split at hm2
    · rename_i hc
      have : k' = .free := by
        rw [Bool.and_eq_true, Bool.and_eq_true] at hc
        exact eq_of_beq hc.1.1
      cases hm2
      rw [← this]; exact hm1
    · cases hm2
      rcases hk with z | z
      · exact absurd z (h2 _ hm1)
      · rw [← z]; exact hm1
  · have hl : i < ixs.length := by
      have := (List.getElem?_eq_some_iff.mp hv).1
      simpa [srcL] using this
    unfold srcL at hv
    rw [List.getElem?_map] at hv
    have q := h6 i (List.mem_range.mpr hl)
    cases e : ixs[i]? with
    | none => rw [e] at hv; cases hv
    | some o =>
      rw [e] at hv
      cases o with
      | none => cases hv
      | some j =>
        rw [e] at q
        dsimp only at q
        rw [hx] at q
        simp only [Bool.and_eq_true, beq_iff_eq] at q
        have hv : ((σ[j]?).join : Option V) = some v := Option.some.inj hv
        refine ⟨j, by rw [hN]; exact q.1, ?_, q.2⟩
        cases e2 : σ[j]? with
        | none => rw [e2] at hv; cases hv
        | some o2 => rw [e2] at hv; have hv : o2 = some v := hv; rw [hv]
theorem law_sp {K : PySem.W.Frag} {H : Hp} {a : Addr} {ns : List Int} {m : FM} (hO : Only H) (hS : SqL K H a (ns.map V.int)) (h : ∃ S', m [.ref 0] [.flst (ns.map D.int)] = some (.bl true, S')) : sp3 K 1 m [.ref a] H (fun v _ => v = .bl true) fun _ _ _ => False := by
  obtain ⟨S', h⟩ := h
  have rn : ∀ ns : List Int, RDs [a] H (ns.map D.int) (ns.map V.int) := fun ns => by
    induction ns with
    | nil => exact .nil
    | cons x r ih => exact .cons (.int x) ih
  refine ⟨rfl, [a], [.ref 0], _, _, S', ⟨rfl, fun i j b o1 o2 h1 h2 h3 h4 m1 m2 => ?_, fun n b o h1 h2 => ?_⟩, .cons (.ref rfl) .nil, h, fun ρ' H' v' e s r => ?_⟩
  · cases i with
    | zero => cases h3; cases m1
    | succ i => cases h3
  · cases n with
    | succ n => cases h1
    | zero =>
      cases h1; cases h2
      refine ⟨_, ?_, rn ns⟩
      rcases hS with (z | ⟨o, z⟩) | z
      · rcases hO a with y | ⟨o, xs, y⟩ <;> (rw [z] at y; cases y)
      · exact .inl ⟨o, z⟩
      · exact .inr z
  · cases r; rfl
def top (b : List Stmt) (i : Nat) : Stmt := b.getD i (.Pass ⟨0, 0, 0, 0⟩)
end L3
namespace L3
open PySem
def We (m : EM) (l : Lo) (S : Sto) (Q : D → Sto → Prop) : Prop := ∃ v S', m l S = some (v, S') ∧ Q v S'
def Wt (m : TM) (l : Lo) (S : Sto) (Q : Bool → Sto → Prop) : Prop := ∃ v S', m l S = some (v, S') ∧ Q v S'
def Wa (m : AM) (l : Lo) (S : Sto) (Q : List D → Sto → Prop) : Prop := ∃ v S', m l S = some (v, S') ∧ Q v S'
def Wo (o : Option (D × Sto)) (Q : D → Sto → Prop) : Prop := ∃ v S', o = some (v, S') ∧ Q v S'
def Wg (o : Option (Lo × Sto)) (Q : Lo → Sto → Prop) : Prop := ∃ l S', o = some (l, S') ∧ Q l S'
def Wr (o : Option (Fl × Lo × Sto)) (Q : Fl → Lo → Sto → Prop) : Prop := ∃ f l S', o = some (f, l, S') ∧ Q f l S'
abbrev Ws (m : SM) (l : Lo) (S : Sto) (Q : Fl → Lo → Sto → Prop) : Prop := Wr (m l S) Q
section
variable {a b c : EM} {t u : TM} {l : Lo} {S : Sto} {Q : D → Sto → Prop} {QB : Bool → Sto → Prop} {QA : List D → Sto → Prop} {QS : Fl → Lo → Sto → Prop} {QG : Lo → Sto → Prop}
theorem we_var {i : Nat} : We (eVar i) l S Q = ∃ d, l[i]? = some (some d) ∧ Q d S := by
  apply propext; unfold We eVar
  constructor
  · rintro ⟨v, S', h, q⟩
    split at h
    · rename_i d e; cases h; exact ⟨_, e, q⟩
    · cases h
  · rintro ⟨d, e, q⟩
    exact ⟨d, S, by rw [e], q⟩
theorem we_c {d : D} : We (eC d) l S Q = Q d S := by
  apply propext; unfold We eC
  exact ⟨fun ⟨v, S', h, q⟩ => by cases h; exact q, fun q => ⟨_, _, rfl, q⟩⟩
theorem we_op {f : D → D → Sto → Option (D × Sto)} : We (eOp f a b) l S Q = We a l S fun x S1 => We b l S1 fun y S2 => Wo (f x y S2) Q := by
  apply propext
  constructor
  · rintro ⟨v, S', h, q⟩
    obtain ⟨⟨x, S1⟩, h1, h⟩ := bnd h
    obtain ⟨⟨y, S2⟩, h2, h⟩ := bnd h
    exact ⟨x, S1, h1, y, S2, h2, v, S', h, q⟩
  · rintro ⟨x, S1, h1, y, S2, h2, v, S', h, q⟩
    exact ⟨v, S', by unfold eOp; rw [h1]; show (b l S1).bind _ = _; rw [h2]; exact h, q⟩
theorem we_un {f : D → Sto → Option (D × Sto)} : We (eUn f a) l S Q = We a l S fun x S1 => Wo (f x S1) Q := by
  apply propext
  constructor
  · rintro ⟨v, S', h, q⟩
    obtain ⟨⟨x, S1⟩, h1, h⟩ := bnd h
    exact ⟨x, S1, h1, v, S', h, q⟩
  · rintro ⟨x, S1, h1, v, S', h, q⟩
    exact ⟨v, S', by unfold eUn; rw [h1]; exact h, q⟩
theorem wa_nil : Wa aNil l S QA = QA [] S := by
  apply propext
  exact ⟨fun ⟨v, S', h, q⟩ => by cases h; exact q, fun q => ⟨_, _, rfl, q⟩⟩
theorem wa_cons {r : AM} : Wa (aCons a r) l S QA = We a l S fun x S1 => Wa r l S1 fun xs S2 => QA (x :: xs) S2 := by
  apply propext
  constructor
  · rintro ⟨v, S', h, q⟩
    obtain ⟨⟨x, S1⟩, h1, h⟩ := bnd h
    obtain ⟨⟨y, S2⟩, h2, h⟩ := bnd h
    cases h
    exact ⟨x, S1, h1, y, _, h2, q⟩
  · rintro ⟨x, S1, h1, y, S2, h2, q⟩
    exact ⟨x :: y, S2, by unfold aCons; rw [h1]; show (r l S1).bind _ = _; rw [h2]; rfl, q⟩
theorem we_call {f : FM} {r : AM} : We (eCall f r) l S Q = Wa r l S fun xs S1 => Wo (f xs S1) Q := by
  apply propext
  constructor
  · rintro ⟨v, S', h, q⟩
    obtain ⟨⟨x, S1⟩, h1, h⟩ := bnd h
    exact ⟨x, S1, h1, v, S', h, q⟩
  · rintro ⟨x, S1, h1, v, S', h, q⟩
    exact ⟨v, S', by unfold eCall; rw [h1]; exact h, q⟩
theorem we_methL {f : D → List D → Sto → Option (D × Sto)} {r : AM} : We (eMethL f a r) l S Q = We a l S fun x S1 => (∃ xs, recvL x S1 = some xs) ∧ Wa r l S1 fun ys S2 => Wo (f x ys S2) Q := by
  apply propext
  constructor
  · rintro ⟨v, S', h, q⟩
    obtain ⟨⟨x, S1⟩, h1, h⟩ := bnd h
    obtain ⟨xs, h2, h⟩ := bnd h
    obtain ⟨⟨y, S2⟩, h3, h⟩ := bnd h
    exact ⟨x, S1, h1, ⟨xs, h2⟩, y, S2, h3, v, S', h, q⟩
  · rintro ⟨x, S1, h1, ⟨xs, h2⟩, y, S2, h3, v, S', h, q⟩
    refine ⟨v, S', ?_, q⟩
    unfold eMethL; rw [h1]; show (recvL x S1).bind _ = _; rw [h2]; show (r l S1).bind _ = _; rw [h3]; exact h
theorem wt_e : Wt (tE a) l S QB = We a l S fun x S1 => ∃ k, x = .bl k ∧ QB k S1 := by
  apply propext
  constructor
  · rintro ⟨v, S', h, q⟩
    obtain ⟨⟨x, S1⟩, h1, h⟩ := bnd h
    refine ⟨x, S1, h1, ?_⟩
    cases x with
    | bl k => cases h; exact ⟨_, rfl, q⟩
    | _ => cases h
  · rintro ⟨x, S1, h1, k, rfl, q⟩
    exact ⟨k, S1, by unfold tE; rw [h1]; rfl, q⟩
theorem wt_and : Wt (tAnd3 t u) l S QB = Wt t l S fun k S1 => if k = true then Wt u l S1 QB else QB false S1 := by
  apply propext
  constructor
  · rintro ⟨v, S', h, q⟩
    obtain ⟨⟨x, S1⟩, h1, h⟩ := bnd h
    refine ⟨x, S1, h1, ?_⟩
    cases x with
    | true => exact ⟨v, S', h, q⟩
    | false => cases h; exact q
  · rintro ⟨x, S1, h1, h⟩
    cases x with
    | true => obtain ⟨v, S', h, q⟩ := h; exact ⟨v, S', by unfold tAnd3; rw [h1]; exact h, q⟩
    | false => exact ⟨false, S1, by unfold tAnd3; rw [h1]; rfl, h⟩
theorem wt_or : Wt (tOr3 t u) l S QB = Wt t l S fun k S1 => if k = true then QB true S1 else Wt u l S1 QB := by
  apply propext
  constructor
  · rintro ⟨v, S', h, q⟩
    obtain ⟨⟨x, S1⟩, h1, h⟩ := bnd h
    refine ⟨x, S1, h1, ?_⟩
    cases x with
    | false => exact ⟨v, S', h, q⟩
    | true => cases h; exact q
  · rintro ⟨x, S1, h1, h⟩
    cases x with
    | false => obtain ⟨v, S', h, q⟩ := h; exact ⟨v, S', by unfold tOr3; rw [h1]; exact h, q⟩
    | true => exact ⟨true, S1, by unfold tOr3; rw [h1]; rfl, h⟩
theorem wt_not : Wt (tNot3 t) l S QB = Wt t l S fun k S1 => QB (!k) S1 := by
  apply propext
  constructor
  · rintro ⟨v, S', h, q⟩
    obtain ⟨⟨x, S1⟩, h1, h⟩ := bnd h
    cases h
    exact ⟨x, _, h1, q⟩
  · rintro ⟨x, S1, h1, q⟩
    exact ⟨!x, S1, by unfold tNot3; rw [h1]; rfl, q⟩
theorem wt_true : Wt tTrue l S QB = QB true S := by
  apply propext
  exact ⟨fun ⟨v, S', h, q⟩ => by cases h; exact q, fun q => ⟨_, _, rfl, q⟩⟩
theorem we_and : We (eAnd3 a b) l S Q = We a l S fun x S1 => ∃ k, x = .bl k ∧ if k = true then We b l S1 Q else Q (.bl false) S1 := by
  apply propext
  constructor
  · rintro ⟨v, S', h, q⟩
    obtain ⟨⟨x, S1⟩, h1, h⟩ := bnd h
    refine ⟨x, S1, h1, ?_⟩
    cases x with
    | bl k =>
      cases k with
      | true => exact ⟨true, rfl, v, S', h, q⟩
      | false => cases h; exact ⟨false, rfl, q⟩
    | _ => cases h
  · rintro ⟨x, S1, h1, k, rfl, h⟩
    cases k with
    | true => obtain ⟨v, S', h, q⟩ := h; exact ⟨v, S', by unfold eAnd3; rw [h1]; exact h, q⟩
    | false => exact ⟨_, S1, by unfold eAnd3; rw [h1]; rfl, h⟩
theorem we_or : We (eOr3 a b) l S Q = We a l S fun x S1 => ∃ k, x = .bl k ∧ if k = true then Q (.bl true) S1 else We b l S1 Q := by
  apply propext
  constructor
  · rintro ⟨v, S', h, q⟩
    obtain ⟨⟨x, S1⟩, h1, h⟩ := bnd h
    refine ⟨x, S1, h1, ?_⟩
    cases x with
    | bl k =>
      cases k with
      | false => exact ⟨false, rfl, v, S', h, q⟩
      | true => cases h; exact ⟨true, rfl, q⟩
    | _ => cases h
  · rintro ⟨x, S1, h1, k, rfl, h⟩
    cases k with
    | false => obtain ⟨v, S', h, q⟩ := h; exact ⟨v, S', by unfold eOr3; rw [h1]; exact h, q⟩
    | true => exact ⟨_, S1, by unfold eOr3; rw [h1]; rfl, h⟩
theorem we_not : We (eNot3 a) l S Q = We a l S fun x S1 => ∃ k, x = .bl k ∧ Q (.bl (!k)) S1 := by
  apply propext
  constructor
  · rintro ⟨v, S', h, q⟩
    obtain ⟨⟨x, S1⟩, h1, h⟩ := bnd h
    refine ⟨x, S1, h1, ?_⟩
    cases x with
    | bl k => cases h; exact ⟨k, rfl, q⟩
    | _ => cases h
  · rintro ⟨x, S1, h1, k, rfl, h⟩
    exact ⟨_, S1, by unfold eNot3; rw [h1]; rfl, h⟩
theorem we_if : We (eIf3 t a b) l S Q = Wt t l S fun k S1 => if k = true then We a l S1 Q else We b l S1 Q := by
  apply propext
  constructor
  · rintro ⟨v, S', h, q⟩
    obtain ⟨⟨x, S1⟩, h1, h⟩ := bnd h
    refine ⟨x, S1, h1, ?_⟩
    cases x with
    | true => exact ⟨v, S', h, q⟩
    | false => exact ⟨v, S', h, q⟩
  · rintro ⟨x, S1, h1, h⟩
    cases x with
    | true => obtain ⟨v, S', h, q⟩ := h; exact ⟨v, S', by unfold eIf3; rw [h1]; exact h, q⟩
    | false => obtain ⟨v, S', h, q⟩ := h; exact ⟨v, S', by unfold eIf3; rw [h1]; exact h, q⟩
variable {m n : SM}
theorem ws_next : Ws sNext l S QS = QS .nx l S := by
  apply propext
  exact ⟨fun ⟨f, v, S', h, q⟩ => by cases h; exact q, fun q => ⟨_, _, _, rfl, q⟩⟩
theorem ws_break : Ws sBreak l S QS = QS .bk l S := by
  apply propext
  exact ⟨fun ⟨f, v, S', h, q⟩ => by cases h; exact q, fun q => ⟨_, _, _, rfl, q⟩⟩
theorem ws_cont : Ws sCont l S QS = QS .ct l S := by
  apply propext
  exact ⟨fun ⟨f, v, S', h, q⟩ => by cases h; exact q, fun q => ⟨_, _, _, rfl, q⟩⟩
theorem ws_seq : Ws (sSeq m n) l S QS = Ws m l S fun f l1 S1 => match f with | .nx => Ws n l1 S1 QS | f => QS f l1 S1 := by
  apply propext
  constructor
  · rintro ⟨f, v, S', h, q⟩
    obtain ⟨⟨g, l1, S1⟩, h1, h⟩ := bnd h
    refine ⟨g, l1, S1, h1, ?_⟩
    cases g with
    | nx => exact ⟨f, v, S', h, q⟩
    | _ => cases h; exact q
  · rintro ⟨g, l1, S1, h1, h⟩
    cases g with
    | nx => obtain ⟨f, v, S', h, q⟩ := h; exact ⟨f, v, S', by unfold sSeq; rw [h1]; exact h, q⟩
    | bk => exact ⟨_, _, _, by unfold sSeq; rw [h1]; rfl, h⟩
    | ct => exact ⟨_, _, _, by unfold sSeq; rw [h1]; rfl, h⟩
    | rt d => exact ⟨_, _, _, by unfold sSeq; rw [h1]; rfl, h⟩
theorem ws_cut (R : Lo → Sto → Prop) (h1 : Ws m l S fun f l1 S1 => f = .nx ∧ R l1 S1) (h2 : ∀ l1 S1, R l1 S1 → Ws n l1 S1 QS) : Ws (sSeq m n) l S QS := by
  rw [ws_seq]
  obtain ⟨f, l1, S1, e, rfl, r⟩ := h1
  exact ⟨_, _, _, e, h2 l1 S1 r⟩
theorem ws_if : Ws (sIf t m n) l S QS = Wt t l S fun k S1 => if k = true then Ws m l S1 QS else Ws n l S1 QS := by
  apply propext
  constructor
  · rintro ⟨f, v, S', h, q⟩
    obtain ⟨⟨x, S1⟩, h1, h⟩ := bnd h
    refine ⟨x, S1, h1, ?_⟩
    cases x with
    | true => exact ⟨f, v, S', h, q⟩
    | false => exact ⟨f, v, S', h, q⟩
  · rintro ⟨x, S1, h1, h⟩
    cases x with
    | true => obtain ⟨f, v, S', h, q⟩ := h; exact ⟨f, v, S', by unfold sIf; rw [h1]; exact h, q⟩
    | false => obtain ⟨f, v, S', h, q⟩ := h; exact ⟨f, v, S', by unfold sIf; rw [h1]; exact h, q⟩
theorem ws_drop : Ws (sDrop a) l S QS = We a l S fun _ S1 => QS .nx l S1 := by
  apply propext
  constructor
  · rintro ⟨f, v, S', h, q⟩
    obtain ⟨⟨x, S1⟩, h1, h⟩ := bnd h
    cases h
    exact ⟨x, _, h1, q⟩
  · rintro ⟨x, S1, h1, q⟩
    exact ⟨_, _, _, by unfold sDrop; rw [h1]; rfl, q⟩
theorem ws_ret : Ws (sRet a) l S QS = We a l S fun x S1 => QS (.rt x) l S1 := by
  apply propext
  constructor
  · rintro ⟨f, v, S', h, q⟩
    obtain ⟨⟨x, S1⟩, h1, h⟩ := bnd h
    cases h
    exact ⟨x, _, h1, q⟩
  · rintro ⟨x, S1, h1, q⟩
    exact ⟨_, _, _, by unfold sRet; rw [h1]; rfl, q⟩
theorem ws_asg {g : GM} : Ws (sAsg a g) l S QS = We a l S fun x S1 => Wg (g x l S1) fun l2 S2 => QS .nx l2 S2 := by
  apply propext
  constructor
  · rintro ⟨f, v, S', h, q⟩
    obtain ⟨⟨x, S1⟩, h1, h⟩ := bnd h
    obtain ⟨⟨l2, S2⟩, h2, h⟩ := bnd h
    cases h
    exact ⟨x, S1, h1, _, _, h2, q⟩
  · rintro ⟨x, S1, h1, l2, S2, h2, q⟩
    refine ⟨_, _, _, ?_, q⟩
    unfold sAsg; rw [h1]; show (g x l S1).bind _ = _; rw [h2]; rfl
theorem wg_name {i : Nat} {d : D} : Wg (gName3 i d l S) QG = QG (l.set i (some d)) S := by
  apply propext
  exact ⟨fun ⟨v, S', h, q⟩ => by cases h; exact q, fun q => ⟨_, _, rfl, q⟩⟩
theorem wg_tup {k : Nat} {gs : GsM} {xs : List D} : Wg (gTup3 k gs (.tup xs) l S) QG = (xs.length = k ∧ Wg (gs xs l S) QG) := by
  apply propext
  constructor
  · rintro ⟨v, S', h, q⟩
    have h : (if xs.length = k then gs xs l S else none) = some (v, S') := h
    by_cases hl : xs.length = k
    · rw [if_pos hl] at h; exact ⟨hl, v, S', h, q⟩
    · rw [if_neg hl] at h; cases h
  · rintro ⟨hl, v, S', h, q⟩
    exact ⟨v, S', by show (if xs.length = k then gs xs l S else none) = _; rw [if_pos hl]; exact h, q⟩
theorem wg_nil : Wg (gNil3 [] l S) QG = QG l S := by
  apply propext
  exact ⟨fun ⟨v, S', h, q⟩ => by cases h; exact q, fun q => ⟨_, _, rfl, q⟩⟩
theorem wg_cons {g : GM} {gs : GsM} {x : D} {xs : List D} : Wg (gCons3 g gs (x :: xs) l S) QG = Wg (g x l S) fun l1 S1 => Wg (gs xs l1 S1) QG := by
  apply propext
  constructor
  · rintro ⟨v, S', h, q⟩
    obtain ⟨⟨l1, S1⟩, h1, h⟩ := bnd h
    exact ⟨l1, S1, h1, v, S', h, q⟩
  · rintro ⟨l1, S1, h1, v, S', h, q⟩
    exact ⟨v, S', by show (g x l S).bind _ = _; rw [h1]; exact h, q⟩
theorem wg_sub {o i : EM} {v : D} : Wg (gSub3 o i v l S) QG = We o l S fun x S1 => We i l S1 fun y S2 => ∃ S', setIx x y v S2 = some S' ∧ QG l S' := by
  apply propext
  constructor
  · rintro ⟨l', S', h, q⟩
    obtain ⟨⟨x, S1⟩, h1, h⟩ := bnd h
    obtain ⟨⟨y, S2⟩, h2, h⟩ := bnd h
    obtain ⟨S3, h3, h⟩ := bnd h
    cases h
    exact ⟨x, S1, h1, y, S2, h2, _, h3, q⟩
  · rintro ⟨x, S1, h1, y, S2, h2, S3, h3, q⟩
    refine ⟨l, S3, ?_, q⟩
    unfold gSub3; rw [h1]; show (i l S1).bind _ = _; rw [h2]; show (setIx x y v S2).bind _ = _; rw [h3]; rfl
theorem wo_some {d : D} : Wo (some (d, S)) Q = Q d S := by
  apply propext
  exact ⟨fun ⟨v, S', h, q⟩ => by cases h; exact q, fun q => ⟨_, _, rfl, q⟩⟩
theorem wo_bind {α : Type} {o : Option α} {f : α → Option (D × Sto)} : Wo (o.bind f) Q = ∃ x, o = some x ∧ Wo (f x) Q := by
  cases o with
  | none => simp [Wo]
  | some x => simp [Wo]
theorem wo_ite {p : Prop} [Decidable p] {x : D × Sto} : Wo (if p then some x else none) Q = (p ∧ Q x.1 x.2) := by
  obtain ⟨a, b⟩ := x
  by_cases hp : p
  · rw [if_pos hp]
    apply propext
    exact ⟨fun ⟨v, S', h, q⟩ => by cases h; exact ⟨hp, q⟩, fun q => ⟨a, b, rfl, q.2⟩⟩
  · simp [hp, Wo]
theorem wo_I0 {g : Int → Int → D} {i j : Int} : Wo (oI0 g (.int i) (.int j) S) Q = Q (g i j) S := wo_some
theorem wo_I {C : Int → Int → Bool} {g : Int → Int → D} {i j : Int} : Wo (oI C g (.int i) (.int j) S) Q = (C i j = true ∧ Q (g i j) S) := wo_ite
theorem wo_ixT {xs : List D} {i : Int} : Wo (dIx (.tup xs) (.int i) S) Q = ∃ v, L2.atI xs i = some v ∧ Q v S := by
  show Wo ((L2.atI xs i).bind fun v => some (v, S)) Q = _
  rw [wo_bind]; simp only [wo_some]
theorem wo_ixL {k : Nat} {i : Int} : Wo (dIx (.ref k) (.int i) S) Q = ∃ xs, lstOf S k = some xs ∧ ∃ v, L2.atI xs i = some v ∧ Q v S := by
  show Wo ((lstOf S k).bind fun xs => (L2.atI xs i).bind fun v => some (v, S)) Q = _
  rw [wo_bind]; simp only [wo_bind, wo_some]
theorem wo_lenT {xs : List D} : Wo (fLen [.tup xs] S) Q = Q (.int xs.length) S := wo_some
theorem wo_lenL {k : Nat} : Wo (fLen [.ref k] S) Q = ∃ xs, lstOf S k = some xs ∧ Q (.int xs.length) S := by
  show Wo ((lstOf S k).bind fun xs => some (.int xs.length, S)) Q = _
  rw [wo_bind]; simp only [wo_some]
theorem wo_abs {i : Int} : Wo (fAbs [.int i] S) Q = Q (.int (if i < 0 then -i else i)) S := wo_some
theorem wo_intB {k : Bool} : Wo (fInt [.bl k] S) Q = Q (.int (if k then 1 else 0)) S := wo_some
theorem wo_tup {xs : List D} : Wo (fTup xs S) Q = (xs.length ≤ sizeLine ∧ Q (.tup xs) S) := wo_ite
theorem wo_lst {xs : List D} : Wo (fLst xs S) Q = (xs.length ≤ sizeLine ∧ Q (.ref S.length) (S ++ [.lst xs])) := wo_ite
theorem wo_tupleL {k : Nat} : Wo (fTuple [.ref k] S) Q = ∃ xs, lstOf S k = some xs ∧ Q (.tup xs) S := by
  show Wo ((lstOf S k).bind fun xs => some (.tup xs, S)) Q = _
  rw [wo_bind]; simp only [wo_some]
theorem wo_eqI {i j : Int} : Wo (dEq (.int i) (.int j) S) Q = Q (.bl (decide (i = j))) S := wo_some
theorem wo_eqB {i j : Bool} : Wo (dEq (.bl i) (.bl j) S) Q = Q (.bl (decide (i = j))) S := wo_some
theorem wo_neS {i j : Str} : Wo (dNe (.str i) (.str j) S) Q = Q (.bl (!decide (i = j))) S := wo_some
theorem wo_is {x : D} : Wo (dIs x .non S) Q = Q (.bl (isNon x)) S := by
  cases x <;> exact wo_some
theorem wo_isnot {x : D} : Wo (dIsNot x .non S) Q = Q (.bl (!isNon x)) S := by
  cases x <;> exact wo_some
theorem wo_append {k : Nat} {x : D} : Wo (mAppend (.ref k) [x] S) Q = ∃ xs, S[k]? = some (.lst xs) ∧ xs.length < sizeLine ∧ Q .non (S.set k (.lst (xs ++ [x]))) := by
  show Wo (match S[k]? with | some (.lst xs) => if xs.length < sizeLine then some (.non, S.set k (.lst (xs ++ [x]))) else none | _ => none) Q = _
  cases e : S[k]? with
  | none => simp [Wo]
  | some o =>
    cases o with
    | lst xs => simp [wo_ite]
    | flst xs => simp [Wo]
    | iset f n => simp [Wo]
    | dct kvs => simp [Wo]
    | fdct kvs => simp [Wo]
    | ftdct kvs => simp [Wo]
    | tset ks => simp [Wo]
    | fnc x => simp [Wo]
    | tdct kvs => simp [Wo]
    | exc c => simp [Wo]
theorem wo_run {k : Nat} {b : SM} {ds : List D} : Wo (runB k b ds S) Q = Ws b (ds.map some ++ List.replicate (k - ds.length) none) S fun f _ S1 => match f with | .rt d => Q d S1 | .nx => Q .non S1 | _ => False := by
  apply propext
  constructor
  · rintro ⟨v, S', h, q⟩
    obtain ⟨⟨f, l1, S1⟩, h1, h⟩ := bnd h
    refine ⟨f, l1, S1, h1, ?_⟩
    cases f with
    | rt d => cases h; exact q
    | nx => cases h; exact q
    | bk => cases h
    | ct => cases h
  · rintro ⟨f, l1, S1, h1, q⟩
    cases f with
    | rt d => exact ⟨_, _, by unfold runB; rw [h1]; rfl, q⟩
    | nx => exact ⟨_, _, by unfold runB; rw [h1]; rfl, q⟩
    | bk => cases q
    | ct => cases q
end
theorem Wo.mono {o : Option (D × Sto)} {Q Q' : D → Sto → Prop} (h : Wo o Q) (i : ∀ v S, Q v S → Q' v S) : Wo o Q' := let ⟨v, S, e, q⟩ := h; ⟨v, S, e, i v S q⟩
theorem Wr.mono {o : Option (Fl × Lo × Sto)} {Q Q' : Fl → Lo → Sto → Prop} (h : Wr o Q) (i : ∀ f v S, Q f v S → Q' f v S) : Wr o Q' := let ⟨f, v, S, e, q⟩ := h; ⟨f, v, S, e, i f v S q⟩
section
variable {g : GM} {b : SM} {l : Lo} {S : Sto} {QS : Fl → Lo → Sto → Prop}
theorem ws_forR {as : AM} : Ws (sForR (rng1 as) g b) l S QS = Wa as l S fun xs S1 => ∃ j, xs = [.int j] ∧ (-(2 ^ 62) ≤ j ∧ j < 2 ^ 62) ∧ Wr (forX g b (rngD 0 j.toNat) l S1) QS := by
  apply propext
  constructor
  · rintro ⟨f, v, S', h, q⟩
    obtain ⟨⟨⟨lo, n⟩, S1⟩, h1, h⟩ := bnd h
    obtain ⟨⟨xs, S2⟩, h2, h1⟩ := bnd h1
    dsimp only at h1
    split at h1
    · rename_i j
      obtain ⟨hz, e⟩ := ite_some h1
      cases e
      exact ⟨_, _, h2, j, rfl, hz, f, v, S', h, q⟩
    · cases h1
  · rintro ⟨xs, S1, h1, j, rfl, hz, f, v, S', h, q⟩
    refine ⟨f, v, S', ?_, q⟩
    have : rng1 as l S = some ((0, j.toNat), S1) := by
      unfold rng1; rw [h1]; show (if _ then _ else _) = _; rw [if_pos hz]
    unfold sForR; show (rng1 as l S).bind _ = _; rw [this]; exact h
theorem ws_forT {e : EM} : Ws (sFor e g b) l S QS = We e l S fun x S1 => Wr (match x with | .tup xs => forX g b xs l S1 | .ref n => (lstOf S1 n).bind fun xs => forL g b n (xs.length + 1) 0 l S1 | _ => none) QS := by
  apply propext
  constructor
  · rintro ⟨f, v, S', h, q⟩
    obtain ⟨⟨x, S1⟩, h1, h⟩ := bnd h
    exact ⟨x, S1, h1, f, v, S', h, q⟩
  · rintro ⟨x, S1, h1, f, v, S', h, q⟩
    exact ⟨f, v, S', by unfold sFor; rw [h1]; exact h, q⟩
theorem rngD_get {lo : Int} {n i : Nat} {x : D} (h : (rngD lo n)[i]? = some x) : i < n ∧ x = .int (lo + i) := by
  have hl := (List.getElem?_eq_some_iff.mp h).1
  simp only [rngD, List.length_map, List.length_range] at hl
  unfold rngD at h
  rw [List.getElem?_map, List.getElem?_range hl] at h
  exact ⟨hl, (Option.some.inj h).symm⟩
theorem rngD_len (lo : Int) (n : Nat) : (rngD lo n).length = n := by simp [rngD]
end
end L3
namespace L3
open PySem PySem.Spec PyProof.Rows L2
mutual
def pyOf (S : Sto) : Nat → D → Option PyData
  | 0, _ => none
  | _ + 1, .non => some .none
  | _ + 1, .bl b => some (.bool b)
  | _ + 1, .int i => if i.natAbs.log2 < 1920 then some (.int i) else none
  | _ + 1, .str x => some (.str x)
  | k + 1, .tup xs => (pyAll S k xs).bind fun ds => some (.tuple ds)
  | k + 1, .ref n => (lstOf S n).bind fun xs => (pyAll S k xs).bind fun ds => some (.list ds)
  | _ + 1, .fn _ => none
termination_by k => (k, 0)
def pyAll (S : Sto) : Nat → List D → Option (List PyData)
  | _, [] => some []
  | k, x :: xs => (pyOf S k x).bind fun d => (pyAll S k xs).bind fun ds => some (d :: ds)
termination_by k xs => (k, xs.length + 1)
end
def fRepr : FM
  | [x], S => (pyOf S 140 x).bind fun d => if d.shown.length ≤ sizeLine then some (.str d.shown, S) else none
  | _, _ => none
section
variable {X : Cx} {pins : List (Addr × Obj)} {σ : St} {H : Hp} {s : Shared} {ρ : List Addr} {S : Sto}
mutual
theorem reads_of (I : Inv X pins σ H s) (sim : Sim X.K ρ S H) : ∀ (k : Nat) (d : D) (v : V) (u : Value) (p : PyData), RD ρ H d v → RelV v u → pyOf S k d = some p → (∃ as, Reads s.heap u p as) ∧ p.showable = true ∧ p.hasDict = false ∧ p.depth ≤ k
  | 0, d, v, u, p, _, _, h => by unfold pyOf at h; cases h
  | k + 1, .non, v, u, p, r, e, h => by
    unfold pyOf at h; cases h; cases r; cases e
    exact ⟨⟨_, .none⟩, rfl, rfl, Nat.zero_le _⟩
  | k + 1, .bl b, v, u, p, r, e, h => by
    unfold pyOf at h; cases h; cases r; cases e
    exact ⟨⟨_, .bool b⟩, rfl, rfl, Nat.zero_le _⟩
  | k + 1, .int i, v, u, p, r, e, h => by
    unfold pyOf at h
    obtain ⟨hz, e2⟩ := ite_some h
    cases e2; cases r
    obtain ⟨t, rfl⟩ := e
    exact ⟨⟨_, .int i t⟩, by unfold PyData.showable; exact decide_eq_true hz, rfl, Nat.zero_le _⟩
  | k + 1, .str x, v, u, p, r, e, h => by
    unfold pyOf at h; cases h; cases r
    obtain ⟨t, rfl⟩ := e
    exact ⟨⟨_, .str x t⟩, rfl, rfl, Nat.zero_le _⟩
  | k + 1, .fn _, v, u, p, r, e, h => by unfold pyOf at h; cases h
  | k + 1, .tup xs, v, u, p, r, e, h => by
    unfold pyOf at h
    obtain ⟨ds, h1, h⟩ := bnd h
    cases h
    cases r with
    | tup ha r =>
      cases e
      obtain ⟨its, rv, ⟨o, ho, hc, n, hd⟩, hz⟩ := I.tuple (SqT.of ha)
      obtain ⟨⟨as, h2⟩, h3, h4, h5⟩ := readsAll_of I sim k xs _ _ ds r rv h1
      refine ⟨⟨as, .tuple ho hc hd (by simpa using h2)⟩, ?_, ?_, ?_⟩
      · unfold PyData.showable; exact h3
      · unfold PyData.hasDict; exact h4
      · unfold PyData.depth; omega
  | k + 1, .ref n, v, u, p, r, e, h => by
    unfold pyOf at h
    obtain ⟨xs, h0, h⟩ := bnd h
    obtain ⟨ds, h1, h⟩ := bnd h
    cases h
    obtain ⟨a, vs, ha, sq, rd⟩ := sim.lstOf h0
    cases r with
    | ref hn =>
      rw [ha] at hn; cases hn
      cases e
      obtain ⟨its, rv, pl, hz⟩ := I.list sq
      obtain ⟨o, ho, hc, m, hd⟩ := pl.isList
      obtain ⟨⟨as, h2⟩, h3, h4, h5⟩ := readsAll_of I sim k xs _ _ ds rd rv h1
      refine ⟨⟨_, .list ho hc hd (by simpa using h2)⟩, ?_, ?_, ?_⟩
      · unfold PyData.showable; exact h3
      · unfold PyData.hasDict; exact h4
      · unfold PyData.depth; omega
termination_by k => (k, 0)
theorem readsAll_of (I : Inv X pins σ H s) (sim : Sim X.K ρ S H) : ∀ (k : Nat) (xs : List D) (vs : List V) (us : List Value) (ds : List PyData), RDs ρ H xs vs → Vals vs us → pyAll S k xs = some ds → (∃ as, ReadsAll s.heap us ds as) ∧ PyData.showableAll ds = true ∧ PyData.hasDictAll ds = false ∧ PyData.depthAll ds ≤ k
  | k, [], vs, us, ds, r, e, h => by
    unfold pyAll at h; cases h; cases r; cases e
    exact ⟨⟨_, .nil⟩, rfl, rfl, Nat.zero_le _⟩
  | k, x :: xs, vs, us, ds, r, e, h => by
    unfold pyAll at h
    obtain ⟨d, h1, h⟩ := bnd h
    obtain ⟨ds', h2, h⟩ := bnd h
    cases h
    cases r with
    | cons r1 r2 =>
      cases e with
      | cons e1 e2 =>
        obtain ⟨⟨as, q1⟩, q2, q3, q4⟩ := reads_of I sim k x _ _ d r1 e1 h1
        obtain ⟨⟨bs, p1⟩, p2, p3, p4⟩ := readsAll_of I sim k xs _ _ ds' r2 e2 h2
        refine ⟨⟨_, .cons q1 p1⟩, ?_, ?_, ?_⟩
        · unfold PyData.showableAll; rw [q2, p2]; rfl
        · unfold PyData.hasDictAll; rw [q3, p3]; rfl
        · unfold PyData.depthAll; omega
termination_by k xs => (k, xs.length + 1)
end
end
end L3
namespace L3
open PySem PySem.Spec PyProof.Rows L2
section
variable {X : Cx} {a : Expr} {es : List Expr} {mA : AM} {pos p : Pos}
theorem call_repr3 {k : Nat} (hr : Room k X.A) : CallR X (.builtin "repr") (fun xs H Q => ∃ v ρ S d pd, xs = [v] ∧ Sim X.K ρ S H ∧ RD ρ H d v ∧ pyOf S 140 d = some pd ∧ pd.shown.length ≤ sizeLine ∧ Q (.str pd.shown) H) := by
  intro pins s σ H xs us Q I r h
  obtain ⟨v, ρ, S, d, pd, rfl, sim, rd, hp, hz, q⟩ := h
  obtain ⟨u, rfl, ru⟩ := vals1 r
  have key := reads_of I sim 140 d v u pd rd ru hp
  have byRef : ∀ a, u = .ref a → wpAny (model X.prog X.w) X.A (call (.builtin "repr") [u]) (EP X pins σ Q) X.xe s := fun b hb => by
    subst hb
    obtain ⟨⟨as, h1⟩, h2, h3, h4⟩ := key
    have hu : X.A.units + (pd.depth + 1) < cLine := by have := hr.un; omega
    refine repr_of_reads' h1 h2 (fun z => by rw [h3] at z; cases z) hr.gd hu (fun _ _ e => e) (fun h' u tk hk => ?_) hz
    exact ⟨.str pd.shown, H, I.kept hk, ⟨u, rfl⟩, q⟩
  have hp' := hp
  cases rd with
  | non => cases ru; unfold pyOf at hp'; cases hp'; exact P.repr_of_none ⟨.str _, H, I.tok _, ⟨_, rfl⟩, q⟩
  | bl b => cases ru; unfold pyOf at hp'; cases hp'; exact P.repr_of_bool ⟨.str _, H, I.tok _, ⟨_, by cases b <;> rfl⟩, q⟩
  | int i =>
    obtain ⟨t, rfl⟩ := ru
    unfold pyOf at hp'
    obtain ⟨hi, e⟩ := ite_some hp'
    cases e
    exact P.repr_of_int hi ⟨.str _, H, I.tok _, ⟨_, rfl⟩, q⟩
  | str x => obtain ⟨t, rfl⟩ := ru; unfold pyOf at hp'; cases hp'; exact P.repr_of_str ⟨.str _, H, I.tok _, ⟨_, rfl⟩, q⟩ hz
  | tup ha r => exact byRef _ ru
  | ref hn => exact byRef _ ru
  | fn b => unfold pyOf at hp'; cases hp'
theorem fn3_repr {K : PySem.W.Frag} : Fn3 K fRepr (fun xs H Q => ∃ v ρ S d pd, xs = [v] ∧ Sim K ρ S H ∧ RD ρ H d v ∧ pyOf S 140 d = some pd ∧ pd.shown.length ≤ sizeLine ∧ Q (.str pd.shown) H) := by
  intro ρ S H xs vs v S' Q sim r h p
  unfold fRepr at h
  split at h
  · obtain ⟨pd, h1, h⟩ := bnd h
    obtain ⟨hz, e⟩ := ite_some h
    cases e
    obtain ⟨w, rfl, rw'⟩ := r.one
    exact ⟨w, ρ, _, _, pd, rfl, sim, rw', h1, hz, p ρ H _ (Ext.refl ..) sim (.str _)⟩
  · cases h
theorem boot_repr' : bootBuiltins "repr" = some (.builtin "repr") := by decide +kernel
theorem p3_repr {k : Nat} (hr : Room k X.A) (hg : Gl X "repr") (hm : X.mg "repr" = none) (ha : PA3 X (a :: es) mA) (he : starEach (a :: es) X.env = (false, eval a X.env) :: starEach es X.env := by rfl) (hpl : (backTo pos (starEach es X.env)).any (·.1) = false := by rfl) : PE3 X (.Call (.Name "repr" p) (a :: es) [] pos) (eCall fRepr mA) :=
  p3_callB (call_repr3 hr) fn3_repr hg hm boot_repr' ha (by decide) (by decide) he hpl
end
theorem wo_repr {x : D} {S : Sto} {Q : D → Sto → Prop} : Wo (fRepr [x] S) Q = ∃ pd, pyOf S 140 x = some pd ∧ pd.shown.length ≤ sizeLine ∧ Q (.str pd.shown) S := by
  show Wo ((pyOf S 140 x).bind fun d => if d.shown.length ≤ sizeLine then some (.str d.shown, S) else none) Q = _
  rw [wo_bind]
  simp only [wo_ite]
end L3
namespace L3
open PySem PySem.Spec PyProof.Rows L2
theorem noFill_tuple_mul : fillsNumberSlot (.type "tuple") "mul" = pure false :=
  PySem.fillsNumberSlot_seq (id := "tuple.__mul__") (r := some (.builtin "tuple.__rmul__")) PySem.F.slot_tuple_mul.lookup (by decide +kernel) PySem.F.slot_tuple_rmul.lookup (by decide +kernel)
theorem repeat_tuple : seqRepeat? (.type "tuple") = pure (some (.builtin "tuple.__mul__")) := by
  unfold seqRepeat?
  rw [PySem.seqSlot_of (T := "tuple") (name := "__mul__") (id := "tuple.__mul__") PySem.F.slot_tuple_mul.lookup (by decide +kernel), PySem.seqSlot_of (T := "tuple") (name := "__rmul__") (id := "tuple.__rmul__") PySem.F.slot_tuple_rmul.lookup (by decide +kernel)]
  rfl
open PySem.AutoSeq1 (wpAny_loadPart')
theorem rmul_int_tuple (a : Int) (t : Tok) (l : Addr) (items : Array Value) (n : Nat) (dd : Option Addr) (sl : Array (Option Value)) :
    Meets (Builtin.«int.__rmul__» ⟨[.int a t, .ref l], []⟩) (fun _ R s => s.heap.get? l = some { cls := .type "tuple", dict := dd, data := .seq items n, slots := sl } ∧ R (.ok (.ret Value.notImplemented)) s) :=
  .of_wp fun prog w A R s h => by obtain ⟨hp, g, d, tk, os⟩ := s; obtain ⟨hl, h⟩ := h; wp_walk; exact ⟨_, rfl, h⟩
section
variable {prog : Program} {w : World} {A : Around} {E : Value → Shared → Prop} {s : Shared}
theorem mul_tup {t : Addr} {items : Array Value} {k : Int} {u : Tok} {Q : Value → Shared → Prop} (ht : IsTup s.heap t items) (k0 : 2 ≤ k) (k1 : k < 2 ^ 31) (hi : items.isEmpty = false) (hz : items.size * k.toNat ≤ sizeLine)
    (h : Q (.ref s.heap.objs.size) { s with heap := s.heap.push { cls := .type "tuple", data := .seq ((List.replicate k.toNat items).foldl (· ++ ·) #[]) } }) (h6 : ((List.replicate k.toNat items).foldl (· ++ ·) #[]).size ≤ sizeLine) :
    wpAny (model prog w) A (call (.builtin "tuple.__mul__") [.ref t, .int k u]) Q E s := by
  refine wpAny_call_entry PySem.F.slot_tuple_mul ht.typeIs PySem.F.entry_tuple_mul ?_ (PySem.F.args_tuple_mul_2 _ _)
  show wpAny _ _ (asIndex (.int k u) >>= _) _ _ s
  refine wpAny_bind ?_
  show wpAny _ _ (pure k) _ _ s
  refine wpAny_pure ?_
  have e1 : (decide (k < -(2 ^ 63)) || decide (k ≥ 2 ^ 63)) = false := by
    rw [Bool.or_eq_false_iff]; exact ⟨decide_eq_false (by omega), decide_eq_false (by omega)⟩
  have e2 : (items.isEmpty || k == 1) = false := by rw [hi, Bool.false_or]; exact beq_false_of_ne (by omega)
  have e3 : (decide (k ≤ 0) || items.isEmpty) = false := by rw [hi, Bool.or_false]; exact decide_eq_false (by omega)
  show wpAny _ _ (if (decide (k < -(2 ^ 63)) || decide (k ≥ 2 ^ 63)) = true then _ else _) _ _ s
  rw [if_neg (by rw [e1]; exact Bool.false_ne_true)]
  refine wpAny_bind (tupleItemsOf_ ht ?_)
  show wpAny _ _ (if (items.isEmpty || k == 1) = true then _ else _) _ _ s
  rw [if_neg (by rw [e2]; exact Bool.false_ne_true)]
  show wpAny _ _ (if (decide (k ≤ 0) || items.isEmpty) = true then _ else _) _ _ s
  rw [if_neg (by rw [e3]; exact Bool.false_ne_true)]
  have hk : (items.size : Int) * k = ((items.size * k.toNat : Nat) : Int) := by rw [Int.natCast_mul, Int.toNat_of_nonneg (by omega)]
  have hs : (sizeLine : Nat) = 16777216 := by decide
  show wpAny _ _ (if (items.size : Int) * k > (2 ^ 63 - 1) / 8 then _ else _) _ _ s
  rw [if_neg (by rw [hk]; omega)]
  show wpAny _ _ (if Builtin.Tuple.tupleTooMany ((items.size : Int) * k) = true then _ else _) _ _ s
  rw [if_neg (by unfold Builtin.Tuple.tupleTooMany; rw [hk]; simp only [decide_eq_true_eq]; omega)]
  first
    | exact wpAny_bind (m := Builtin.Tuple.tupleExact _) (wpAny_newObj_type (wpAny_pure ⟨_, rfl, h⟩) h6)
    | exact wpAny_bind (m := Builtin.Tuple.tupleExact _) (wpAny_newObj_type (wpAny_pure ⟨_, rfl, wpAny_pure h⟩) h6)
theorem mul_tup1 {t : Addr} {items : Array Value} {u : Tok} {Q : Value → Shared → Prop} (ht : IsTup s.heap t items) (h : Q (.ref t) s) :
    wpAny (model prog w) A (call (.builtin "tuple.__mul__") [.ref t, .int 1 u]) Q E s := by
  refine wpAny_call_entry PySem.F.slot_tuple_mul ht.typeIs PySem.F.entry_tuple_mul ?_ (PySem.F.args_tuple_mul_2 _ _)
  show wpAny _ _ (asIndex (.int 1 u) >>= _) _ _ s
  refine wpAny_bind ?_
  show wpAny _ _ (pure (1 : Int)) _ _ s
  refine wpAny_pure ?_
  show wpAny _ _ (if (decide ((1 : Int) < -(2 ^ 63)) || decide ((1 : Int) ≥ 2 ^ 63)) = true then _ else _) _ _ s
  rw [if_neg (by decide)]
  refine wpAny_bind (tupleItemsOf_ ht ?_)
  show wpAny _ _ (if (items.isEmpty || (1 : Int) == 1) = true then _ else _) _ _ s
  rw [if_pos (by simp)]
  unfold Builtin.Tuple.tupleIsExact
  refine wpAny_bind (wpAny_bind (wpAny_typeOf ht.typeIs (wpAny_pure ?_)))
  rw [if_pos (by decide)]
  exact wpAny_bind (wpAny_rule (wpAny_pure ⟨_, rfl, h⟩))
theorem mul_tup0 {t : Addr} {items : Array Value} {k : Int} {u : Tok} {Q : Value → Shared → Prop} (ht : IsTup s.heap t items) (k0 : k = 0) (hi : items.isEmpty = false)
    (h : Q (.ref s.heap.objs.size) { s with heap := s.heap.push { cls := .type "tuple", data := .seq #[] } }) :
    wpAny (model prog w) A (call (.builtin "tuple.__mul__") [.ref t, .int k u]) Q E s := by
  subst k0
  refine wpAny_call_entry PySem.F.slot_tuple_mul ht.typeIs PySem.F.entry_tuple_mul ?_ (PySem.F.args_tuple_mul_2 _ _)
  show wpAny _ _ (asIndex (.int 0 u) >>= _) _ _ s
  refine wpAny_bind ?_
  show wpAny _ _ (pure (0 : Int)) _ _ s
  refine wpAny_pure ?_
  show wpAny _ _ (if (decide ((0 : Int) < -(2 ^ 63)) || decide ((0 : Int) ≥ 2 ^ 63)) = true then _ else _) _ _ s
  rw [if_neg (by decide)]
  refine wpAny_bind (tupleItemsOf_ ht ?_)
  show wpAny _ _ (if (items.isEmpty || (0 : Int) == 1) = true then _ else _) _ _ s
  rw [if_neg (by rw [hi]; decide)]
  show wpAny _ _ (if (decide ((0 : Int) ≤ 0) || items.isEmpty) = true then _ else _) _ _ s
  rw [if_pos (by simp)]
  first
    | exact wpAny_bind (m := Builtin.Tuple.tupleExact _) (wpAny_newObj_type (wpAny_pure ⟨_, rfl, h⟩) (Nat.zero_le _))
    | exact wpAny_bind (m := Builtin.Tuple.tupleExact _) (wpAny_newObj_type (wpAny_pure ⟨_, rfl, h⟩) (by decide))
end
def rRepT3 (K : PySem.W.Frag) : R2 := fun x y H Q => ∃ a k xs, x = .ref a ∧ y = .int k ∧ SqT K H a xs ∧ xs ≠ [] ∧ 0 ≤ k ∧ k < 2 ^ 31 ∧ xs.length * k.toNat ≤ sizeLine ∧
  (k = 1 → Q (.ref a) H) ∧ (k ≠ 1 → ∀ p, H p = none → Q (.ref p) (upd H p (.tup (List.replicate k.toNat xs).flatten)))
theorem op_repT3 {X : Cx} : OpR X (binaryOp .Mult) (rRepT3 X.K) := by
  intro pins s σ H x y v u Q I rx ry h
  obtain ⟨a, k, xs, rfl, rfl, hx, hne, k0, k1, hz, q1, q2⟩ := h
  cases rx
  obtain ⟨t, rfl⟩ := ry
  obtain ⟨its, r, pt, _⟩ := I.tuple hx
  have hne' : its ≠ [] := fun z => hne (r.nil_iff.mp z)
  have hie : its.toArray.isEmpty = false := by cases its with
    | nil => exact absurd rfl hne'
    | cons _ _ => simp
  obtain ⟨⟨cls, dd, data, sl⟩, ho, hc, n, hd⟩ := id pt
  simp only at hc hd
  subst hc hd
  refine wpAny_binaryOp_repeat_ref (T := "tuple") (U := "int") (by decide) ⟨_, ho, rfl⟩ (fun s' => typeIs_int s' k t) noFill_tuple_mul PySem.F.fills_int_mul PySem.F.slot_int_rmul repeat_tuple PySem.F.slot_int_index.lookup
    (call_meets PySem.F.slot_int_rmul (typeIs_int s k t) PySem.F.entry_int_rmul (PySem.F.args_int_rmul_2 _ _) (rmul_int_tuple k t a its.toArray n dd sl) ⟨ho, rfl, ⟨_, ho, rfl⟩, ?_⟩)
  have f0 : ∀ m : Nat, List.foldl (fun x1 x2 => x1 ++ x2) #[] (List.replicate m its.toArray) = (List.replicate m its).flatten.toArray := fun m => by
    have := foldl_rep its m []
    rw [List.nil_append] at this
    exact this
  have hl : xs.length = its.length := r.length
  by_cases e1 : k = 1
  · subst e1
    exact mul_tup1 pt ⟨.ref a, H, I, rfl, q1 rfl⟩
  · by_cases e0 : k = 0
    · refine mul_tup0 pt e0 hie ?_
      have hv : Vals ([] : List V) ([] : List Value) := .nil
      refine ⟨.ref s.heap.objs.size, _, I.laid (t' := s.toks) (o := .tup []) (fun b ob q => Heap.get?_push_of_some _ q) (Nat.le_refl _) ?_, rfl, ?_⟩
      · exact ⟨Nat.zero_le _, [], .nil, IsTup.new _ _⟩
      · have := q2 e1 _ (I.hok.fresh (Nat.le_refl _))
        subst e0
        exact this
    · have hlen : (List.replicate k.toNat its).flatten.length = k.toNat * its.length := len_rep its k.toNat
      refine mul_tup pt (by omega) k1 hie (by rw [List.size_toArray, ← hl]; exact hz) ?_ ?_
      · rw [f0]
        refine ⟨.ref s.heap.objs.size, _, I.laid (t' := s.toks) (o := .tup (List.replicate k.toNat xs).flatten) (fun b ob q => Heap.get?_push_of_some _ q) (Nat.le_refl _) ?_, rfl, q2 e1 _ (I.hok.fresh (Nat.le_refl _))⟩
        exact ⟨by rw [len_rep, Nat.mul_comm]; exact hz, _, r.rep k.toNat, IsTup.new _ _⟩
      · rw [f0, List.size_toArray, hlen, Nat.mul_comm, ← hl]; exact hz
def dTimes : D → D → Sto → Option (D × Sto)
  | .int i, .int j, S => if (-(2 ^ 64) < i ∧ i < 2 ^ 64) ∨ (-(2 ^ 64) < j ∧ j < 2 ^ 64) then some (.int (i * j), S) else none
  | .tup (x :: xs), .int k, S => if 0 ≤ k ∧ k < 2 ^ 31 ∧ (xs.length + 1) * k.toNat ≤ sizeLine then some (.tup (List.replicate k.toNat (x :: xs)).flatten, S) else none
  | _, _, _ => none
theorem op3_times {K : PySem.W.Frag} : Op3 K dTimes (fun x y H Q => rI CMul (fun i j => .int (i * j)) x y H Q ∨ rRepT3 K x y H Q) := by
  intro ρ S H x y x' y' v S' Q sim rx ry h p
  unfold dTimes at h
  split at h
  · obtain ⟨hc, e⟩ := ite_some h
    cases e; cases rx; cases ry
    exact .inl ⟨_, _, rfl, rfl, hc, p ρ H _ (Ext.refl ..) sim (.int _)⟩
  · rename_i x xs k
    obtain ⟨⟨k0, k1, hz⟩, e⟩ := ite_some h
    cases e; cases ry
    cases rx with
    | @tup _ a vs ha r =>
      have hl := r.length
      refine .inr ⟨a, k, vs, rfl, rfl, SqT.of ha, ?_, k0, k1, by rw [← hl]; exact hz, fun e => ?_, fun _ => new_tup sim (r.rep k.toNat) p⟩
      · intro z; rw [z] at hl; cases hl
      · subst e
        have e2 : (List.replicate (1 : Int).toNat (x :: xs)).flatten = x :: xs := by simp
        rw [e2] at p
        exact p ρ H _ (Ext.refl ..) sim (.tup ha r)
  · cases h
section
variable {X : Cx} {a b : Expr} {ma mb : EM} {pos : Pos}
theorem p3_times (ha : PE3 X a ma) (hb : PE3 X b mb) : PE3 X (.BinOp a .Mult b pos) (eOp dTimes ma mb) := p3_op (op_mul.or op_repT3) op3_times ha hb
end
end L3
namespace L3
open PySem PySem.Spec PyProof.Rows L2
section
variable {X : Cx} {c : Expr} {body : List Stmt} {mc : TM} {mb : SM} {pos : Pos}
end
section
variable {X : Cx}
variable {a b : Expr} {ma mb : EM} {pos : Pos}
end
def dEqD : D → D → Sto → Option (D × Sto) := fun x y S => (pyOf S 60 x).bind fun p => (pyOf S 60 y).bind fun q => if p.canLay0 = true ∧ q.canLay0 = true then some (.bl (p.eqv q), S) else none
def dNeD : D → D → Sto → Option (D × Sto) := fun x y S => (pyOf S 60 x).bind fun p => (pyOf S 60 y).bind fun q => if p.canLay0 = true ∧ q.canLay0 = true then some (.bl (!p.eqv q), S) else none
def rEqD (K : PySem.W.Frag) (neg : Bool) : R2 := fun x y H Q => ∃ ρ S dx dy p q, Sim K ρ S H ∧ RD ρ H dx x ∧ RD ρ H dy y ∧ pyOf S 60 dx = some p ∧ pyOf S 60 dy = some q ∧ p.canLay0 = true ∧ q.canLay0 = true ∧ Q (.bl (if neg then !p.eqv q else p.eqv q)) H
section
variable {X : Cx}
theorem op_eqD {k : Nat} (hr : Room k X.A) : OpR X (compareOp .Eq) (rEqD X.K false) := by
  intro pins s σ H x y v u Q I rx ry h
  obtain ⟨ρ, S, dx, dy, p, q, sim, r1, r2, h1, h2, c1, c2, hq⟩ := h
  obtain ⟨⟨as, k1⟩, _, _, k2⟩ := reads_of I sim 60 dx x v p r1 rx h1
  obtain ⟨⟨bs, k3⟩, _, _, k4⟩ := reads_of I sim 60 dy y u q r2 ry h2
  have hu : X.A.units + min p.depth q.depth < cLine := by have := hr.un; have : min p.depth q.depth ≤ p.depth := Nat.min_le_left _ _; omega
  exact PySem.SeqAt.compareEq_reads k1 k3 c1 c2 hu ⟨.bl _, H, I, rfl, hq⟩
theorem op_neD {k : Nat} (hr : Room k X.A) : OpR X (compareOp .NotEq) (rEqD X.K true) := by
  intro pins s σ H x y v u Q I rx ry h
  obtain ⟨ρ, S, dx, dy, p, q, sim, r1, r2, h1, h2, c1, c2, hq⟩ := h
  obtain ⟨⟨as, k1⟩, _, _, k2⟩ := reads_of I sim 60 dx x v p r1 rx h1
  obtain ⟨⟨bs, k3⟩, _, _, k4⟩ := reads_of I sim 60 dy y u q r2 ry h2
  have hu : X.A.units + min p.depth q.depth < cLine := by have := hr.un; have : min p.depth q.depth ≤ p.depth := Nat.min_le_left _ _; omega
  exact PySem.SeqAt.compareNe_reads k1 k3 c1 c2 hu ⟨.bl _, H, I, rfl, hq⟩
theorem op3_eqD {K : PySem.W.Frag} : Op3 K dEqD (rEqD K false) := by
  intro ρ S H x y x' y' v S' Q sim rx ry h p
  obtain ⟨d1, h1, h⟩ := bnd h
  obtain ⟨d2, h2, h⟩ := bnd h
  obtain ⟨hc, e⟩ := ite_some h
  cases e
  exact ⟨ρ, _, x, y, d1, d2, sim, rx, ry, h1, h2, hc.1, hc.2, p ρ H _ (Ext.refl ..) sim (.bl _)⟩
theorem op3_neD {K : PySem.W.Frag} : Op3 K dNeD (rEqD K true) := by
  intro ρ S H x y x' y' v S' Q sim rx ry h p
  obtain ⟨d1, h1, h⟩ := bnd h
  obtain ⟨d2, h2, h⟩ := bnd h
  obtain ⟨hc, e⟩ := ite_some h
  cases e
  exact ⟨ρ, _, x, y, d1, d2, sim, rx, ry, h1, h2, hc.1, hc.2, p ρ H _ (Ext.refl ..) sim (.bl _)⟩
variable {a b : Expr} {ma mb : EM} {pos : Pos} {k : Nat}
theorem t3_eqD (hr : Room k X.A) (ha : PE3 X a ma) (hb : PE3 X b mb) : PT3 X (.Compare a [.Eq] [b] pos) (tE (eOp dEqD ma mb)) := t3_cmp (op_eqD hr) op3_eqD ha hb (nomark b)
theorem t3_neD (hr : Room k X.A) (ha : PE3 X a ma) (hb : PE3 X b mb) : PT3 X (.Compare a [.NotEq] [b] pos) (tE (eOp dNeD ma mb)) := t3_cmp (op_neD hr) op3_neD ha hb (nomark b)
end
end L3
namespace L3
open PySem PySem.Spec PyProof.Rows L2
section
variable {X : Cx}
variable {a b : Expr} {ma mb : EM} {pos : Pos}
end
section
variable {X : Cx}
variable {o e : Expr} {mo m : EM} {apos cpos : Pos}
end
section
variable {prog : Program} {w : World} {A : Around} {E : Value → Shared → Prop} {s : Shared}
end
section
variable {X : Cx}
end
end L3
namespace L3
open PySem PySem.Spec PyProof.Rows L2
section
variable {X : Cx} {o e : Expr} {mo m : EM} {apos cpos : Pos}
end
def mExtend : D → List D → Sto → Option (D × Sto)
  | .ref n, [.ref m], S => match S[n]?, S[m]? with
    | some (.lst xs), some (.lst ys) => if xs.length + ys.length ≤ sizeLine then some (.non, S.set n (.lst (xs ++ ys))) else none
    | _, _ => none
  | _, _, _ => none
theorem mt3_extend {K : PySem.W.Frag} : Mt3 K mExtend rExtend := by
  intro ρ S H x x' xs vs v S' Q sim rx r h p
  unfold mExtend at h
  split at h
  · split at h
    · rename_i n m S ys zs e e'
      obtain ⟨hz, e2⟩ := ite_some h
      cases e2
      obtain ⟨w, rfl, rw'⟩ := r.one
      obtain ⟨a, us, ha, hH, r2⟩ := sim.lst e
      obtain ⟨b, ws, hb, hH2, r3⟩ := sim.lst e'
      cases rw' with
      | ref hm =>
        rw [hb] at hm; cases hm
        cases rx with
        | ref hn =>
          rw [ha] at hn; cases hn
          exact ⟨a, b, us, ws, rfl, rfl, hH, hH2, by rw [← r2.length, ← r3.length]; exact hz, p ρ _ _ (ext_upd ha hH) (sim.set ha e hH (r2.append r3)) .non⟩
    · cases h
  · cases h
section
variable {X : Cx} {o e : Expr} {mo m : EM} {apos cpos : Pos}
theorem p3_extend (ho : PE3 X o mo) (he : PE3 X e m)
    (hbase : attributeBase o "extend" X.env (eval o X.env) = eval o X.env := by rfl)
    (hfew : ((backTo cpos (starEach [e] X.env)).all (fun x => !x.1) && (backToKw cpos (keywordEach [] X.env)).all (fun x => x.1.isSome)
      && decide ([e].length + ([] : List Keyword).length + (if ([] : List Keyword).isEmpty then 0 else 1) < 30)) = true := by rfl)
    (hline : (apos.endLine == cpos.line) = true := by rfl) (hs : starEach [e] X.env = (false, eval e X.env) :: starEach [] X.env := by rfl) :
    PE3 X (.Call (.Attribute o "extend" apos) [e] [] cpos) (eMethL mExtend mo (aCons m aNil)) :=
  p3_bm PySem.F.slot_list_extend PySem.F.type_list_extend mt_extend mt3_extend ho (a3_cons he a3_nil hs) hbase hfew hline hs
end
section
variable {X : Cx}
variable {a a2 : Expr} {mA : AM} {p p0 pos pos' : Pos}
end
end L3
namespace L3
open PySem PySem.Spec PyProof.Rows L2
section
variable {X : Cx}
variable {a : Expr} {es : List Expr} {mA : AM} {p pos : Pos}
end
end L3
namespace L3
open PySem PySem.Spec PyProof.Rows L2
section
variable {X : Cx} {pos : Pos}
end
def dNeNil : D → D → Sto → Option (D × Sto)
  | .ref n, .ref m, S => match S[n]?, S[m]? with
    | some (.lst xs), some (.lst []) => some (.bl (!xs.isEmpty), S)
    | _, _ => none
  | _, _, _ => none
def rNeNil : R2 := fun x y H Q => ∃ a b xs, x = .ref a ∧ y = .ref b ∧ H a = some (.lst xs) ∧ H b = some (.lst []) ∧ Q (.bl (!xs.isEmpty)) H
section
variable {X : Cx} {a b : Expr} {ma mb : EM} {pos : Pos} {k : Nat}
theorem op_neNil (hr : Room k X.A) : OpR X (compareOp .NotEq) rNeNil := by
  intro pins s σ H x y v u Q I rx ry h
  obtain ⟨a, b, xs, rfl, rfl, ha, hb, q⟩ := h
  cases rx; cases ry
  obtain ⟨z, its, n, r, hl, e⟩ := I.lstM ha
  obtain ⟨z2, its2, n2, r2, hl2, e2⟩ := I.lstM hb
  cases r2
  have hu : X.A.units < cLine := by have := hr.un; omega
  have l1 : s.heap.IsList a its.toArray := ⟨_, e, rfl, n, rfl⟩
  have l2 : s.heap.IsList b ([] : List Value).toArray := ⟨_, e2, rfl, n2, rfl⟩
  cases xs with
  | nil =>
    cases r
    have := SeqAt.RcNeAt.lists (A := X.A) (e := fun _ => true) l1 l2 rfl hu (fun j h1 _ => by simp at h1)
    exact this X.prog X.w X.xe _ ⟨.bl _, H, I, rfl, q⟩
  | cons y ys =>
    cases r with
    | cons r1 r2 =>
      exact SeqAt.RcNeAt.lists_lengths (A := X.A) l1 l2 (by simp) hu X.prog X.w X.xe _ ⟨.bl _, H, I, rfl, q⟩
theorem op3_neNil {K : PySem.W.Frag} : Op3 K dNeNil rNeNil := by
  intro ρ S H x y x' y' v S' Q sim rx ry h p
  unfold dNeNil at h
  split at h
  · split at h
    · rename_i n m S xs e1 e2
      cases h
      obtain ⟨a, us, ha, hH, r2⟩ := sim.lst e1
      obtain ⟨b, ws, hb, hH2, r3⟩ := sim.lst e2
      cases r3
      cases rx with
      | ref hn =>
        rw [ha] at hn; cases hn
        cases ry with
        | ref hm =>
          rw [hb] at hm; cases hm
          refine ⟨a, b, us, rfl, rfl, hH, hH2, ?_⟩
          have : us.isEmpty = xs.isEmpty := by cases r2 <;> rfl
          rw [this]
          exact p ρ H _ (Ext.refl ..) sim (.bl _)
    · cases h
  · cases h
theorem t3_neNil (hr : Room k X.A) (ha : PE3 X a ma) (hb : PE3 X b mb) : PT3 X (.Compare a [.NotEq] [b] pos) (tE (eOp dNeNil ma mb)) := t3_cmp (op_neNil hr) op3_neNil ha hb (nomark b)
end
section
variable {X : Cx} {pins : List (Addr × Obj)} {σ : St} {H : Hp} {s : Shared} {ρ : List Addr} {S : Sto}
end
section
variable {X : Cx} {a : Expr} {es : List Expr} {mA : AM} {pos p : Pos}
end
end L3
namespace L3
open PySem PySem.Spec PyProof.Rows L2
section
variable {prog : Program} {w : World} {A : Around} {E : Value → Shared → Prop} {s : Shared}
theorem next_tup {b t : Addr} {n : Nat} {vs : Array Value} {u : Value} {Q : Value → Shared → Prop} (hb : s.heap.IsTupleIter b t n) (ht : s.heap.IsTuple t vs) (hu : vs[n]? = some u)
    (q : ∀ h1, h1.IsTupleIter b t (n + 1) → Heap.SameBut b s.heap h1 → Q u { s with heap := h1 }) : wpAny (model prog w) A (Builtin.SmallTypes.nextOf (.ref b)) Q E s := by
  obtain ⟨ob, gb, cb, db⟩ := id hb
  obtain ⟨ot, gt, _, nt, dt⟩ := ht
  unfold Builtin.SmallTypes.nextOf
  refine wpAny_bind (wpAny_callSpecial?_slot (name := Str.ofString "__next__") hb.typeIs F.slot_tuple_iterator_next (wpAny_call_entry F.slot_tuple_iterator_next hb.typeIs F.entry_tuple_iterator_next ?_ (F.args_tuple_iterator_next_1 _)))
  show wpAny _ _ (field (.ref b) 0 >>= _) _ _ s
  refine wpAny_bind (wpAny_field gb db (x := .ref t) rfl ?_)
  show wpAny _ _ (if (Value.ref t == Value.none) = true then _ else _) _ _ s
  rw [if_neg (by intro z; cases z)]
  show wpAny _ _ (field (.ref b) 1 >>= _) _ _ s
  refine wpAny_bind (wpAny_field gb db (x := .int n 0) rfl ?_)
  show wpAny _ _ (seqItems? (.ref t) >>= _) _ _ s
  refine wpAny_bind (wpAny_seqItems gt dt ?_)
  simp only [Int.toNat_natCast, hu]
  refine wpAny_bind (wpAny_setField gb db (by simp) (wpAny_pure ⟨u, rfl, wpAny_pure (q _ ⟨_, Heap.get?_update_self _ gb (Obj.isFreed_of_fields (Obj.data_mapFields db _)), (Obj.cls_mapFields ..).trans cb, by rw [Obj.data_mapFields db]; simp [rawInt]⟩ (Heap.SameBut.update ..))⟩))
theorem next_tup_end {b t : Addr} {n : Nat} {vs : Array Value} {Q : Value → Shared → Prop} (hA : A.handled = none) (hb : s.heap.IsTupleIter b t n) (ht : s.heap.IsTuple t vs) (hu : vs[n]? = none)
    (q : ∀ h1 x, Heap.ExtBut b s.heap h1 → (∃ o, h1.get? x = some o ∧ o.cls = .type "StopIteration") → E (.ref x) { s with heap := h1 }) : wpAny (model prog w) A (Builtin.SmallTypes.nextOf (.ref b)) Q E s := by
  obtain ⟨ob, gb, cb, db⟩ := id hb
  obtain ⟨ot, gt, _, nt, dt⟩ := ht
  unfold Builtin.SmallTypes.nextOf
  refine wpAny_bind (wpAny_callSpecial?_slot (name := Str.ofString "__next__") hb.typeIs F.slot_tuple_iterator_next (wpAny_call_entry F.slot_tuple_iterator_next hb.typeIs F.entry_tuple_iterator_next ?_ (F.args_tuple_iterator_next_1 _)))
  show wpAny _ _ (field (.ref b) 0 >>= _) _ _ s
  refine wpAny_bind (wpAny_field gb db (x := .ref t) rfl ?_)
  show wpAny _ _ (if (Value.ref t == Value.none) = true then _ else _) _ _ s
  rw [if_neg (by intro z; cases z)]
  show wpAny _ _ (field (.ref b) 1 >>= _) _ _ s
  refine wpAny_bind (wpAny_field gb db (x := .int n 0) rfl ?_)
  show wpAny _ _ (seqItems? (.ref t) >>= _) _ _ s
  refine wpAny_bind (wpAny_seqItems gt dt ?_)
  simp only [Int.toNat_natCast, hu]
  refine wpAny_bind (wpAny_rule (wpAny_bind (wpAny_setField gb db (by simp) ?_)))
  show wpAny _ _ (newExc (.type "StopIteration") [] >>= _) _ _ _
  refine wpAny_bind ?_
  simp only [newExc, newTuple]
  refine wpAny_bind (wpAny_newObj_type ?_ (by size_fits))
  refine wpAny_bind (m := firstArgMember _ _) (wpAny_of_eq (a := Value.none) (by first | rfl | (simp only [firstArgMember]; rfl)) ?_)
  refine wpAny_newObj_type ?_ (by size_fits)
  simp only [raiseNew]
  refine wpAny_bind (wpAny_handled ?_)
  first | rw [show A.in1.handled = none from hA] | rw [hA]
  refine wpAny_bind (wpAny_pure (wpAny_throw ?_))
  exact q _ _ (((Heap.SameBut.update ..).extBut.push _).push _) ⟨_, Heap.get?_push_size _ rfl, rfl⟩
end
theorem draws_tup {prog : Program} {w : World} {A : Around} (hA : A.handled = none) (b t : Addr) (hne : t ≠ b) (vs : Array Value) :
    Draws prog w A b [b, t] vs.size (fun i v => vs[i]? = some v) (fun i h => h.IsTupleIter b t i ∧ h.IsTuple t vs) where
  live := fun _ _ st => let ⟨o, ho, _⟩ := st.1; ⟨o, ho⟩
  frame := fun _ _ _ st hk => ⟨let ⟨o, ho, r⟩ := st.1; ⟨o, hk b (by simp) o ho, r⟩, let ⟨o, ho, r⟩ := st.2; ⟨o, hk t (by simp) o ho, r⟩⟩
  item := fun i s Q E hi st hQ => next_tup st.1 st.2 (u := vs[i]) (by simp [hi]) fun h1 hb1 hs1 => hQ _ h1 s.toks (by simp [hi]) ⟨hb1, st.2.extBut hs1.extBut hne⟩ hs1
  done := fun s Q E st hE => next_tup_end hA st.1 st.2 (by simp) hE
theorem Inv.dealt {X : Cx} {pins : List (Addr × Obj)} {σ : L2.St} {H : Hp} {s : Shared} {h1 : Heap} {t1 : Nat} {ch : List Addr} {xs : List V} {us : List Value} (I : Inv X pins σ H s) (hf : ∀ b ∈ ch, FpOk X pins H b)
    (k : ∀ b o, b ∉ ch → s.heap.get? b = some o → h1.get? b = some o) (g : IsTup h1 s.heap.objs.size us.toArray) (r : Vals xs us) (hz : xs.length ≤ sizeLine) :
    Inv X pins σ (upd H s.heap.objs.size (.tup xs)) { s with heap := h1, toks := t1 } := by
  have hn : H s.heap.objs.size = none := I.hok.fresh (Nat.le_refl _)
  have ne : ∀ b o, s.heap.get? b = some o → b ≠ s.heap.objs.size := fun b o e => Nat.ne_of_lt (Heap.lt_size e)
  have nf : ∀ b u, H b = some u → b ∉ ch := fun b u e z => by rw [(hf b z).1] at e; cases e
  refine I.step (g' := s.gens) (d' := s.drawn) (ch := ch) (fun b hb => ?_) (fun b o _ _ hc e _ => k b o hc e) (fun b o _ _ hc e _ => ⟨o.slots, k b o hc e⟩) (fun b o _ e n => by rw [upd_ne (ne b o e)]; exact n)
    (fun b o hc e => ⟨o, k b o hc e⟩) (fun b ys e => by rw [upd_ne (ne_of_none e hn)]; exact e) (fun b o u e => by rw [upd_ne (ne_of_none e hn)]; exact e) (fun b ps e => ⟨#[], by rw [upd_ne (ne_of_none e hn), e]; simp⟩) (fun m hm => ?_) (fun b u e => ?_) I.bare
  · obtain ⟨_, q1, _, q3, q4, q5⟩ := hf b hb
    exact ⟨q3, q1, q4, q5⟩
  · obtain ⟨o, es, ep, ho, q⟩ := hm
    exact ⟨o, es, ep, k _ o (fun z => (hf _ z).2.1 rfl) ho, q⟩
  · by_cases hb : b = s.heap.objs.size
    · subst hb; rw [upd_same] at e; cases e; exact ⟨hz, us, r, g⟩
    · rw [upd_ne hb] at e
      refine (I.hok b u e).stay (fun c v hc q => k c v ?_ q) (fun c q => by rw [upd_ne (ne_of_none q hn)]; exact q) fun c xs q => by rw [upd_ne (ne_of_none q hn)]; exact q
      rcases hc with z | z
      · rw [z]; exact nf b u e
      · exact nf c _ z
def Itn (J : It) : It := ⟨J.go, fun i H x H1 => ∃ y p, J.yld i H y H ∧ H p = none ∧ x = .ref p ∧ H1 = upd H p (.tup [.int i, y]), J.stop⟩
section
variable {P : Program} {w : World} {K : PySem.W.Frag} {elts : List Expr} {z : Nat} {tp : Pos}
theorem enum_obj {e b : Addr} {T : Heap → Prop} (hT : ∀ h, T h → ∃ o, h.get? b = some o ∧ ∀ v, o.data ≠ .cell v) (i : Nat) (h : Heap) (st : (∃ old, IsEnum h e b i old) ∧ T h) : ∀ c ∈ [e, b], ∃ o, h.get? c = some o ∧ ∀ v, o.data ≠ .cell v := fun c hc => by
  have hc : c = e ∨ c = b := by simpa using hc
  rcases hc with rfl | rfl
  · obtain ⟨⟨old, q⟩, _⟩ := st
    exact ⟨_, q, fun v z => by
      have z : Data.fields _ = Data.cell v := z
      cases z⟩
  · exact hT h st.2
theorem other_cls {h : Heap} {a b : Addr} {c d : Value} {p q : Obj → Prop} (ha : ∃ o, h.get? a = some o ∧ o.cls = c ∧ p o) (hb : ∃ o, h.get? b = some o ∧ o.cls = d ∧ q o) (n : c ≠ d) : a ≠ b := by
  rintro rfl
  obtain ⟨o, e, c1, _⟩ := ha
  obtain ⟨o2, e2, c2, _⟩ := hb
  rw [e] at e2; cases e2
  exact n (c1.symm.trans c2)
theorem enum_behind {X : Cx} {pins : List (Addr × Obj)} {σ : L2.St} {H : Hp} {s : Shared} {e b : Addr} {i tk : Nat} {x : V} {u : Value} {h1 h2 : Heap} {J : It} {T : Heap → Prop} (I : Inv X pins σ H s) (hf : ∀ c ∈ [e, b], FpOk X pins H c) (ru : RelV x u)
    (le : e < s.heap.objs.size) (lb : b < s.heap.objs.size) (hk : ∀ c o, c ≠ e → c ≠ b → s.heap.get? c = some o → h1.get? c = some o) (hT : h1.get? s.heap.objs.size = some { cls := .type "tuple", data := .seq #[.int i tk, u] })
    (he2 : IsEnum h2 e b ((i : Int) + 1) u) (hs2 : Heap.SameBut e h1 h2) (t2 : T h2) (y : J.yld i H x H) :
    ∃ x1 H1, Inv X pins σ H1 { s with heap := h2, toks := tk + 1 } ∧ RelV x1 (.ref s.heap.objs.size) ∧ (Itn J).yld i H x1 H1 ∧ ((∃ old, IsEnum h2 e b ((i + 1 : Nat) : Int) old) ∧ T h2) ∧ ∀ c ∈ [e, b], H1 c = none := by
  have hn : H s.heap.objs.size = none := I.hok.fresh (Nat.le_refl _)
  refine ⟨.ref s.heap.objs.size, upd H s.heap.objs.size (.tup [.int i, x]), ?_, rfl, ⟨x, s.heap.objs.size, y, hn, rfl, rfl⟩, ⟨⟨u, by simpa using he2⟩, t2⟩, fun c hc => ?_⟩
  · refine Inv.dealt (us := [.int i tk, u]) I hf (fun c o hc q => ?_) ⟨_, (hs2.2 _ (Nat.ne_of_gt le)).trans hT, rfl, _, rfl⟩ (.cons ⟨tk, rfl⟩ (.cons ru .nil)) (by show 2 ≤ sizeLine; decide)
    have h3 : c ≠ e ∧ c ≠ b := ⟨fun z => hc (by simp [z]), fun z => hc (by simp [z])⟩
    exact (hs2.2 c h3.1).trans (hk c o h3.1 h3.2 q)
  · have : c ≠ s.heap.objs.size := by
      have hc : c = e ∨ c = b := by simpa using hc
      rcases hc with rfl | rfl
      · exact Nat.ne_of_lt le
      · exact Nat.ne_of_lt lb
    rw [upd_ne this]; exact (hf c hc).1
theorem turn_enumL (a e b : Addr) (heb : e ≠ b) : Turn P w K (.Tuple elts z tp) (Itn (Itl K a)) [e, b] e (fun i h => (∃ old, IsEnum h e b i old) ∧ h.IsListIter b a i) where
  mem := by simp
  obj := fun i h st => enum_obj (T := fun h => h.IsListIter b a i) (fun h ⟨o, q, c, d⟩ => ⟨o, q, fun v z => by rw [d] at z; cases z⟩) i h st
  keep := fun i h h1 st k => ⟨let ⟨old, q⟩ := st.1; ⟨old, k e (by simp) _ q⟩, st.2.at fun o q => k b (by simp) o q⟩
  item := by
    intro X hP hw hK hc i pins s σ H E I hf st hg
    subst hP hw hK
    obtain ⟨xs, x, hq, hx⟩ := hg
    obtain ⟨its, rv, p, hz⟩ := I.list hq
    obtain ⟨u, hu, ru⟩ := rv.get hx
    obtain ⟨⟨old, he⟩, hb⟩ := st
    have nab : a ≠ b := other_cls p.isList hb (by decide)
    have nae : a ≠ e := other_cls (d := .type "enumerate") (q := fun _ => True) p.isList ⟨_, he, rfl, trivial⟩ (by decide)
    have hlt : i < its.toArray.size := by simpa using (List.getElem?_eq_some_iff.mp hu).1
    refine wpAny_pyNext_enum_itemD (Draws.list (A := X.A.in1) (I.ok.hd hc) b a nab its.toArray) he ⟨hb, p.isList⟩ hlt heb (by simp [heb, nae.symm]) fun x1 h1 tk hP ho hs1 hT hsz hk => ?_
    have hx1 : x1 = u := by
      have : its.toArray[i]? = some u := by simpa using hu
      rw [this] at hP; exact (Option.some.inj hP).symm
    subst hx1
    obtain ⟨ob, gb, _⟩ := id hb
    refine ⟨_, rfl, wpAny_letOwnedTupleGo_enum ho fun h2 he2 hs2 => ?_⟩
    replace hs2 : Heap.SameBut e h1 h2 := hs2
    exact enum_behind (J := Itl X.K a) (T := fun h => h.IsListIter b a (i + 1)) I hf ru (Heap.lt_size he) (Heap.lt_size gb) hk hT he2 hs2 (hs1.1.at fun o q => (hs2.2 b heb.symm).trans q) ⟨rfl, fun ys hy => by rw [I.list_inj hy hq]; exact hx⟩
  done := by
    intro X hP hw hK hc i pins s σ H E I hf st hg
    subst hP hw hK
    obtain ⟨xs, hq, hx⟩ := hg
    obtain ⟨its, rv, p, hz⟩ := I.list hq
    obtain ⟨⟨old, he⟩, hb⟩ := st
    obtain ⟨f0, f1, f2, f3, f4, f5⟩ := hf b (by simp)
    have hl := rv.length
    exact wpAny_pyNext_enum_end (I.ok.hd hc) he hb p.isList (by simp; omega) fun h1 eb => ⟨rfl, I.turned (t' := s.toks) (fun c o hb q => eb c o hb q) f0 f1 f3 f4 f5⟩
  self := fun A i s Q E st h => let ⟨old, q⟩ := st.1; wpAny_pyIter_enum q h
theorem enum_tup_end {A : Around} {E : Value → Shared → Prop} {s : Shared} {e b t : Addr} {n : Nat} {vs : Array Value} {old : Value} {Q : Option Value → Shared → Prop} (hA : A.handled = none) (he : IsEnum s.heap e b n old) (hb : s.heap.IsTupleIter b t n)
    (ht : s.heap.IsTuple t vs) (hu : vs[n]? = none) (q : ∀ h1, Heap.ExtBut b s.heap h1 → Q none { s with heap := h1 }) : wpAny (model P w) A (pyNext (.ref e)) Q E s := by
  have ty : s.TypeIs (.ref e) "enumerate" := ⟨_, he, rfl⟩
  unfold pyNext
  refine wpAny_bind (wpAny_attempt (wpAny_callSpecial?_slot (name := Str.ofString "__next__") ty F.slot_enumerate_next (wpAny_call_entry F.slot_enumerate_next ty F.entry_enumerate_next ?_ (F.args_enumerate_next_1 _))))
  show wpAny _ _ (field (.ref e) 2 >>= _) _ _ _
  refine wpAny_bind (wpAny_field he rfl (x := .ref b) rfl ?_)
  refine wpAny_bind (next_tup_end hA hb ht hu fun h1 x q1 ⟨o, g, c⟩ => ?_)
  exact wpAny_bind (wpAny_isInstance (T := "StopIteration") (b := true) ⟨o, g, c⟩ isSubtype_stop (wpAny_pure (q _ q1)))
theorem turn_enumT (a e b : Addr) (heb : e ≠ b) : Turn P w K (.Tuple elts z tp) (Itn (Itt K a)) [e, b] e (fun i h => (∃ old, IsEnum h e b i old) ∧ h.IsTupleIter b a i) where
  mem := by simp
  obj := fun i h st => enum_obj (T := fun h => h.IsTupleIter b a i) (fun h ⟨o, q, c, d⟩ => ⟨o, q, fun v z => by rw [d] at z; cases z⟩) i h st
  keep := fun i h h1 st k => ⟨let ⟨old, q⟩ := st.1; ⟨old, k e (by simp) _ q⟩, let ⟨o, q, r⟩ := st.2; ⟨o, k b (by simp) o q, r⟩⟩
  item := by
    intro X hP hw hK hc i pins s σ H E I hf st hg
    subst hP hw hK
    obtain ⟨xs, x, hq, hx⟩ := hg
    obtain ⟨its, rv, p, hz⟩ := I.tuple hq
    obtain ⟨u, hu, ru⟩ := rv.get hx
    obtain ⟨⟨old, he⟩, hb⟩ := st
    have p : s.heap.IsTuple a its.toArray := p
    have nab : a ≠ b := other_cls p hb (by decide)
    have nae : a ≠ e := other_cls (d := .type "enumerate") (q := fun _ => True) p ⟨_, he, rfl, trivial⟩ (by decide)
    have hlt : i < its.toArray.size := by simpa using (List.getElem?_eq_some_iff.mp hu).1
    refine wpAny_pyNext_enum_itemD (draws_tup (A := X.A.in1) (I.ok.hd hc) b a nab its.toArray) he ⟨hb, p⟩ hlt heb (by simp [heb, nae.symm]) fun x1 h1 tk hP ho hs1 hT hsz hk => ?_
    have hx1 : x1 = u := by
      have : its.toArray[i]? = some u := by simpa using hu
      rw [this] at hP; exact (Option.some.inj hP).symm
    subst hx1
    obtain ⟨ob, gb, _⟩ := id hb
    refine ⟨_, rfl, wpAny_letOwnedTupleGo_enum ho fun h2 he2 hs2 => ?_⟩
    replace hs2 : Heap.SameBut e h1 h2 := hs2
    exact enum_behind (J := Itt X.K a) (T := fun h => h.IsTupleIter b a (i + 1)) I hf ru (Heap.lt_size he) (Heap.lt_size gb) hk hT he2 hs2 (hs1.1.extBut hs2.extBut heb.symm) ⟨rfl, fun ys hy => by rw [I.tuple_inj hy hq]; exact hx⟩
  done := by
    intro X hP hw hK hc i pins s σ H E I hf st hg
    subst hP hw hK
    obtain ⟨xs, hq, hx⟩ := hg
    obtain ⟨its, rv, p, hz⟩ := I.tuple hq
    obtain ⟨⟨old, he⟩, hb⟩ := st
    obtain ⟨f0, f1, f2, f3, f4, f5⟩ := hf b (by simp)
    have hl := rv.length
    exact enum_tup_end (I.ok.hd hc) he hb p (by simp; omega) fun h1 eb => ⟨rfl, I.turned (t' := s.toks) (fun c o hb q => eb c o hb q) f0 f1 f3 f4 f5⟩
  self := fun A i s Q E st h => let ⟨old, q⟩ := st.1; wpAny_pyIter_enum q h
end
end L3
namespace L3
open PySem PySem.Spec PyProof.Rows L2
open AutoSeq1 (wpAny_loadPart')
theorem enum_newT (t : Addr) (vs : Array Value) (m : Nat) (dc : Option Addr) (sl : Array (Option Value)) :
    Meets (Builtin.«enumerate.__new__» ⟨[.type "enumerate", .ref t], []⟩) (fun _ R s => s.heap.get? t = some { cls := .type "tuple", dict := dc, data := .seq vs m, slots := sl } ∧
      R (.ok (.ret (.ref (s.heap.push { cls := .type "tuple_iterator", data := .fields #[.ref t, .int 0 0] }).objs.size)))
        { s with heap := (s.heap.push { cls := .type "tuple_iterator", data := .fields #[.ref t, .int 0 0] }).push { cls := .type "enumerate", data := .fields #[.none, .bool false, .ref s.heap.objs.size, rawInt 0, .none, .none] } }) :=
  .of_wp fun prog w A R s ⟨ht, h⟩ => by
    have sub1 := sub_enumerate
    obtain ⟨hp, g, d, tk, os⟩ := s
    have tt : Heap.IsTuple (Shared.heap ⟨hp, g, d, tk, os⟩) t vs := ⟨_, ht, rfl, m, rfl⟩
    wp_walk using wpAny_loadPart' ht
    refine wpAny_stack_any fun _ => wpAny_pure ?_
    split
    · rename_i c _ _ _ _ _
      cases (c == Value.type "enumerate") <;> (wp_walk using wpAny_loadPart' ht, wpAny_pyIter_tuple tt; exact ⟨_, rfl, h⟩)
    · wp_walk using wpAny_loadPart' ht, wpAny_pyIter_tuple tt
      exact ⟨_, rfl, h⟩
section
variable {prog : Program} {w : World} {A : Around} {E : Value → Shared → Prop} {s : Shared}
theorem call_enumT {t : Addr} {vs : Array Value} {Q : Value → Shared → Prop} (ht : s.heap.IsTuple t vs)
    (q : ∀ h1, IsEnum h1 (s.heap.objs.size + 1) s.heap.objs.size 0 .none → h1.IsTupleIter s.heap.objs.size t 0 → (∀ b o, s.heap.get? b = some o → h1.get? b = some o) → Q (.ref (s.heap.objs.size + 1)) { s with heap := h1 }) :
    wpAny (model prog w) A (call (.type "enumerate") [.ref t]) Q E s := by
  obtain ⟨⟨c, dc, dt, sl⟩, gt, hc, m, hd⟩ := ht
  replace hc : c = .type "tuple" := hc
  replace hd : dt = .seq vs m := hd
  subst hc hd
  refine callType_new F.called_enumerate (by decide) (F.typeCall_enumerate_1 _) (F.newCall_enumerate_1 _) (fun o => F.args_object_init_2 o _) F.entry_enumerate_new (enum_newT t vs m dc sl) ⟨gt, ?_⟩
  have hz : (s.heap.push { cls := .type "tuple_iterator", data := .fields #[.ref t, .int 0 0] }).objs.size = s.heap.objs.size + 1 := Heap.size_push ..
  show _ ∧ _
  rw [hz]
  have he : IsEnum ((s.heap.push { cls := .type "tuple_iterator", data := .fields #[.ref t, .int 0 0] }).push { cls := .type "enumerate", data := .fields #[.none, .bool false, .ref s.heap.objs.size, rawInt 0, .none, .none] }) (s.heap.objs.size + 1) s.heap.objs.size 0 .none := by
    rw [← hz]; exact Heap.get?_push_size _ rfl
  exact ⟨⟨_, he, rfl⟩, q _ he ⟨_, Heap.get?_push_of_some _ (Heap.get?_push_size _ rfl), rfl, rfl⟩ fun b o x => Heap.get?_push_of_some _ (Heap.get?_push_of_some _ x)⟩
end
theorem boot_enum : bootBuiltins "enumerate" = some (.type "enumerate") := by decide +kernel
section
variable {X : Cx} {elts : List Expr} {z : Nat} {tp : Pos}
def iEnL (K : PySem.W.Frag) (ta : TA) : TI := fun σ H R => ta σ H fun vs H1 => ∃ a, vs = [.ref a] ∧ (∃ xs, SqL K H1 a xs) ∧ R (Itn (Itl K a)) H1
def iEnT (K : PySem.W.Frag) (ta : TA) : TI := fun σ H R => ta σ H fun vs H1 => ∃ a, vs = [.ref a] ∧ (∃ xs, SqT K H1 a xs) ∧ R (Itn (Itt K a)) H1
theorem pie_enum {pins : List (Addr × Obj)} {σ : L2.St} {H : Hp} {s : Shared} {R : It → Hp → Prop} {E : Value → Shared → Prop} {J : It} {T : Nat → Heap → Prop} {h1 : Heap} (I : Inv X pins σ H s) (tu : Turn X.prog X.w X.K (.Tuple elts z tp) J [s.heap.objs.size + 1, s.heap.objs.size] (s.heap.objs.size + 1) (fun i h => (∃ old, IsEnum h (s.heap.objs.size + 1) s.heap.objs.size i old) ∧ T i h))
    (he : IsEnum h1 (s.heap.objs.size + 1) s.heap.objs.size 0 .none) (t0 : T 0 h1) (hk : ∀ b o, s.heap.get? b = some o → h1.get? b = some o) (q : R J H) : wpAny (model X.prog X.w) X.A (pyIter (.ref (s.heap.objs.size + 1))) (PIE X pins σ (.Tuple elts z tp) R) E { s with heap := h1 } := by
  refine wpAny_pyIter_enum (s := { s with heap := h1 }) he ⟨_, _, _, J, H, rfl, I.kept (t' := s.toks) hk, tu, ⟨⟨_, he⟩, t0⟩, fun c hc => ?_, q⟩
  have : s.heap.objs.size ≤ c := by
    have hc : c = s.heap.objs.size + 1 ∨ c = s.heap.objs.size := by simpa using hc
    rcases hc with rfl | rfl
    · exact Nat.le_succ _
    · exact Nat.le_refl _
  exact I.fpOk this (I.hok.fresh this)
theorem pi_enumL {a : Expr} {ta : TA} {p pos : Pos} (hg : Gl X "enumerate") (hm : X.mg "enumerate" = none) (ha : PA X [a] ta) (hs : starEach [a] X.env = [(false, eval a X.env)] := by rfl) : PI X (.Tuple elts z tp) (.Call (.Name "enumerate" p) [a] [] pos) (iEnL X.K ta) := by
  intro pins s σ H R I h
  refine Call_ (ld_blt I hg hm boot_enum (PyProof.Rows.callWith_type1 (thn (ha pos pins s σ H _ I h) fun us s1 ⟨vs, H1, I1, r1, q1⟩ => ?_) hs rfl))
  obtain ⟨b, rfl, ⟨xs, hq⟩, q⟩ := q1
  cases r1 with
  | cons r rr =>
    cases rr
    cases r
    obtain ⟨its, rv, pl, hz⟩ := I1.list hq
    exact call_enumerate_list pl.isList fun h1 he hb _ hk => pie_enum (T := fun i h => h.IsListIter s1.heap.objs.size b i) I1 (turn_enumL b _ _ (Nat.succ_ne_self _)) he hb hk q
theorem pi_enumT {a : Expr} {ta : TA} {p pos : Pos} (hg : Gl X "enumerate") (hm : X.mg "enumerate" = none) (ha : PA X [a] ta) (hs : starEach [a] X.env = [(false, eval a X.env)] := by rfl) : PI X (.Tuple elts z tp) (.Call (.Name "enumerate" p) [a] [] pos) (iEnT X.K ta) := by
  intro pins s σ H R I h
  refine Call_ (ld_blt I hg hm boot_enum (PyProof.Rows.callWith_type1 (thn (ha pos pins s σ H _ I h) fun us s1 ⟨vs, H1, I1, r1, q1⟩ => ?_) hs rfl))
  obtain ⟨b, rfl, ⟨xs, hq⟩, q⟩ := q1
  cases r1 with
  | cons r rr =>
    cases rr
    cases r
    obtain ⟨its, rv, pl, hz⟩ := I1.tuple hq
    exact call_enumT (show s1.heap.IsTuple b its.toArray from pl) fun h1 he hb hk => pie_enum (T := fun i h => h.IsTupleIter s1.heap.objs.size b i) I1 (turn_enumT b _ _ (Nat.succ_ne_self _)) he hb hk q
end
def forI (it : ItM) (g : GM) (b : SM) : Nat → Nat → SM
  | 0, _, _, _ => none
  | k + 1, i, l, S => (it i S).bind fun o => match o with
    | none => some (.nx, l, S)
    | some x => (g x l S).bind fun p => (b p.1 p.2).bind fun q => match q.1 with
      | .nx => forI it g b k (i + 1) q.2.1 q.2.2
      | .ct => forI it g b k (i + 1) q.2.1 q.2.2
      | .bk => some (.nx, q.2)
      | .rt d => some (.rt d, q.2)
def sForI (im : IM) (g : GM) (b : SM) : SM := fun l S => (im l S).bind fun p => forI p.1 g b p.2.1 0 l p.2.2
def ItLay (K : PySem.W.Frag) (ρ : List Addr) (H : Hp) (it : ItM) (J : It) : Prop := ∀ (i : Nat) ρ' S' H', Ext ρ H ρ' H' → Sim K ρ' S' H' →
  (it i S' = some none → J.stop i H') ∧ ∀ x, it i S' = some (some x) → J.go i H' ∧ ∀ y H'', J.yld i H' y H'' → Ext ρ' H' ρ' H'' ∧ Sim K ρ' S' H'' ∧ RD ρ' H'' x y
def itN (it : ItM) : ItM := fun i S => (it i S).map fun o => o.map fun x => .tup [.int i, x]
section
variable {K : PySem.W.Frag}
theorem itok_enum {ρ : List Addr} {H : Hp} {it : ItM} {J : It} (h : ItOk K ρ H it J) : ItLay K ρ H (itN it) (Itn J) := by
  intro i ρ1 S1 H1 e s
  obtain ⟨h1, h2⟩ := h i ρ1 S1 H1 e s
  unfold itN
  refine ⟨fun q => ?_, fun x q => ?_⟩
  · cases hi : it i S1 with
    | none => rw [hi] at q; cases q
    | some o =>
      cases o with
      | none => exact h1 hi
      | some x => rw [hi] at q; cases q
  · cases hi : it i S1 with
    | none => rw [hi] at q; cases q
    | some o =>
      cases o with
      | none => rw [hi] at q; cases q
      | some y =>
        rw [hi] at q; cases q
        obtain ⟨q1, q2⟩ := h2 y hi
        refine ⟨q1, fun v H2 ⟨y2, p, hy1, hp, e1, e2⟩ => ?_⟩
        subst e1 e2
        obtain ⟨_, r⟩ := q2 y2 H1 hy1
        exact ⟨ext_new hp, s.laid hp, .tup upd_same (.cons (.int _) (.cons (r.mono (ext_new hp)) .nil))⟩
theorem loopI {g : GM} {b : SM} {it : ItM} {J : It} {ρ : List Addr} {l : Lo} {S : Sto} {H : Hp} {σ : L2.St} {f : Fl} {l' : Lo} {S' : Sto} {E : Ends} {k : Nat} (ok : ItLay K ρ H it J)
    (sim : Sim K ρ S H) (ro : RO ρ H l σ) (hm : forI it g b k 0 l S = some (f, l', S')) (p : ∀ ρ' H' σ', Ext ρ H ρ' H' → Sim K ρ' S' H' → RO ρ' H' l' σ' → ends ρ' H' E σ' f) :
    ∃ W : Nat → Nat → L2.St → Hp → Prop, (∃ m, W 0 m σ H) ∧ ∀ i m σ H, W i m σ H →
      (J.stop i H ∧ E.nx σ H) ∨ (J.go i H ∧ ∃ N : L2.St → Hp → Prop, (∀ σ' H', N σ' H' → ∃ m', m' < m ∧ W (i + 1) m' σ' H') ∧ ∀ x H', J.yld i H x H' → tg K g x σ H' fun σ2 H2 => ts K b { E with nx := N, ct := N, bk := E.nx } σ2 H2) := by
  refine ⟨fun i m σ1 H1 => ∃ ρ1 l1 S1, Ext ρ H ρ1 H1 ∧ Sim K ρ1 S1 H1 ∧ RO ρ1 H1 l1 σ1 ∧ forI it g b m i l1 S1 = some (f, l', S'), ⟨k, ρ, l, S, Ext.refl .., sim, ro, hm⟩, ?_⟩
  rintro i m σ1 H1 ⟨ρ1, l1, S1, e1, s1, ro1, hm1⟩
  cases m with
  | zero => cases hm1
  | succ m =>
    unfold forI at hm1
    obtain ⟨o, hi, hm1⟩ := bnd hm1
    obtain ⟨k1, k2⟩ := ok i ρ1 S1 H1 e1 s1
    cases o with
    | none => cases hm1; exact .inl ⟨k1 hi, p ρ1 H1 σ1 e1 s1 ro1⟩
    | some x =>
      obtain ⟨k3, k4⟩ := k2 x hi
      refine .inr ⟨k3, _, fun σ' H' h => h, fun y H2 hyl => ?_⟩
      obtain ⟨x2, s2, r2⟩ := k4 y H2 hyl
      refine turn3 (next := forI it g b m (i + 1)) s2 (ro1.mono x2) r2 hm1 (fun ρ' H' σ' e' => p ρ' H' σ' ((e1.trans x2).trans e')) fun ρ3 H3 σ3 l3 S3 e3 s3 ro3 hm3 => ?_
      exact ⟨m, Nat.lt_succ_self m, ρ3, l3, S3, (e1.trans x2).trans e3, s3, ro3, hm3⟩
end
section
variable {X : Cx} {elts : List Expr} {z : Nat} {tp : Pos} {a : Expr} {mA : AM} {g : GM} {b : SM} {body : List Stmt} {p0 pos' pos : Pos}
end
end L3
namespace L3
open PySem PySem.Spec PyProof.Rows L2
theorem ite_get {α : Type} {c : Prop} [Decidable c] {a : Option α} {v : α} (h : (if c then a else none) = some v) : c ∧ a = some v := by
  by_cases hc : c
  · rw [if_pos hc] at h; exact ⟨hc, h⟩
  · rw [if_neg hc] at h; cases h
section
variable {prog : Program} {w : World} {A : Around} {E : Value → Shared → Prop} {s : Shared}
theorem draw_lst {b t : Addr} {vs : Array Value} (hne : t ≠ b) : ∀ (n i : Nat) (s : Shared) (Q : List Value → Shared → Prop), s.heap.IsListIter b t i → s.heap.IsList t vs → i + n ≤ vs.size →
    (∀ h1, h1.IsListIter b t (i + n) → Heap.SameBut b s.heap h1 → Q ((vs.toList.drop i).take n) { s with heap := h1 }) → wpAny (model prog w) A (draw (.ref b) n) Q E s
  | 0, i, s, Q, hb, _, _, q => by
    show wpAny _ _ (pure []) Q E s
    exact wpAny_pure (by simpa using q s.heap hb (Heap.SameBut.refl ..))
  | n + 1, i, s, Q, hb, ht, hle, q => by
    have hi : i < vs.size := by omega
    show wpAny _ _ (pyNext (.ref b) >>= _) Q E s
    refine wpAny_bind (wpAny_pyNext_list_item hb ht (x := vs[i]) (by simp [hi]) fun h1 b1 s1 => ?_)
    refine wpAny_bind (wpAny_holding (draw_lst hne n (i + 1) _ _ b1 (ht.extBut s1.extBut hne) (by omega) fun h2 b2 s2 => wpAny_pure ?_))
    have q2 := q h2 (by rw [show i + (n + 1) = i + 1 + n by omega]; exact b2) (s1.trans s2)
    rw [show vs.toList.drop i = vs[i] :: vs.toList.drop (i + 1) by simp [List.drop_eq_getElem_cons, hi], List.take_succ_cons] at q2
    exact q2
theorem unpack_lst {t : Addr} {vs : Array Value} {ts : List (Bool × (Value → Sem Unit))} {Q : Unit → Shared → Prop} (hA : A.handled = none) (ht : s.heap.IsList t vs) (hn : ts.length = vs.size) (hst : ts.findIdx? (·.1) = none)
    (q : ∀ h1, Heap.ExtBut s.heap.objs.size s.heap h1 → wpAny (model prog w) A (assignInOrder (ts.map (·.2)) vs.toList) Q E { s with heap := h1 }) : wpAny (model prog w) A (unpack (.ref t) ts) Q E s := by
  have hlt : t ≠ s.heap.objs.size := by obtain ⟨o, ho, _⟩ := ht; exact Nat.ne_of_lt (Heap.lt_size ho)
  unfold unpack
  rw [hn, hst]
  refine wpAny_bind (wpAny_holding ?_)
  unfold unpackItems
  refine wpAny_bind ?_
  · unfold notIterableAtAll
    refine wpAny_bind (wpAny_specialOf ht.typeIs slot_list_iter.lookup (wpAny_pure ?_))
    simp only [Bool.false_eq_true, if_false]
    refine wpAny_bind (wpAny_holding (wpAny_pyIter_list ht ?_))
    have ht0 := ht.push { cls := .type "list_iterator", data := .fields #[.ref t, .int 0 0] }
    refine wpAny_bind (wpAny_holding (draw_lst hlt vs.size 0 _ _ ⟨_, Heap.get?_push_size _ rfl, rfl, rfl⟩ ht0 (by omega) fun h1 b1 s1 => ?_))
    rw [show List.take vs.size (List.drop 0 vs.toList) = vs.toList by rw [List.drop_zero]; exact List.take_of_length_le (by simp), if_neg (by simp)]
    refine wpAny_bind (wpAny_holding (wpAny_pyNext_list_end hA b1 (ht0.extBut s1.extBut hlt) (by simp) fun h2 e2 => ?_))
    simp only [Option.isSome_none, Bool.false_eq_true, if_false]
    exact wpAny_pure (q h2 fun c o hc z => e2 c o hc (s1.extBut c o hc (Heap.get?_push_of_some _ z)))
end
section
variable {X : Cx} {gs : GsM} {es : List Expr} {k n : Nat} {pos : Pos}
def gTupL (K : PySem.W.Frag) (n : Nat) (t : TGs) : TG := fun v σ H Q => ∃ a xs, v = .ref a ∧ SqL K H a xs ∧ xs.length = n ∧ t xs σ H Q
theorem pg_lst {t : TGs} (hc : X.calm = true) (h : PGs X es t) (hn : (assignEach es X.env).length = n := by rfl) (hst : (assignEach es X.env).findIdx? (·.1) = none := by rfl) : PG X (.Tuple es k pos) (gTupL X.K n t) := by
  intro pins s σ H v u Q I r hw
  obtain ⟨a, xs, rfl, hq, hl, hw⟩ := hw
  cases r
  obtain ⟨its, rv, ht, hz⟩ := I.list hq
  rw [assign_Tuple]
  refine wpAny_bind (wpAny_standAt (unpack_lst (I.ok.hd hc) ht.isList (by simp [hn, ← hl, rv.length]) hst fun h1 hx => ?_))
  have I1 : Inv X pins σ H { s with heap := h1 } := I.kept (t' := s.toks) fun b o e => hx b o (Nat.ne_of_lt (Heap.lt_size e)) e
  exact h pins _ σ H xs _ Q I1 (by simpa using rv) hw
def gTupG (n : Nat) (g : GsM) : GM
  | .tup xs, l, S => if xs.length = n then g xs l S else none
  | .ref j, l, S => (lstOf S j).bind fun xs => if xs.length = n then g xs l S else none
  | _, _, _ => none
theorem PG.or {tg : Expr} {t u : TG} (h : PG X tg t) (h' : PG X tg u) : PG X tg (fun v σ H Q => t v σ H Q ∨ u v σ H Q) := by
  intro pins s σ H v w Q I r q
  rcases q with q | q
  · exact h pins s σ H v w Q I r q
  · exact h' pins s σ H v w Q I r q
theorem g3_tupG (hc : X.calm = true) (h : PGs3 X es gs) (hn : (assignEach es X.env).length = n := by rfl) (hst : (assignEach es X.env).findIdx? (·.1) = none := by rfl) : PG3 X (.Tuple es k pos) (gTupG n gs) :=
  PG.imp (PG.or (pg_tup hc h hn hst) (pg_lst hc h hn hst)) fun v σ H Q ⟨ρ, l, S, d, l', S', sim, ro, rd, hm, p⟩ => by
    cases rd with
    | @tup xs a vs ha r =>
      have hm : (if xs.length = n then gs xs l S else none) = some (l', S') := hm
      obtain ⟨hl, hm⟩ := ite_get hm
      exact .inl ⟨a, vs, rfl, SqT.of ha, by rw [← r.length]; exact hl, ρ, l, S, xs, l', S', sim, ro, r, hm, p⟩
    | @ref j a hj =>
      obtain ⟨xs, hx, hm⟩ := bnd (show (lstOf S j).bind (fun xs => if xs.length = n then gs xs l S else none) = some (l', S') from hm)
      obtain ⟨hl, hm⟩ := ite_get hm
      obtain ⟨c, us, hc', sq, rv⟩ := sim.lstOf hx
      rw [hj] at hc'; cases hc'
      exact .inr ⟨a, us, rfl, sq, by rw [← rv.length]; exact hl, ρ, l, S, xs, l', S', sim, ro, rv, hm, p⟩
    | _ => cases hm
end
section
variable {X : Cx} {a : Expr} {ma : EM} {lo hi : Option Expr} {ml mh : OM} {p2 pos : Pos}
end
end L3
namespace L3
open PySem PySem.Spec PyProof.Rows L2
section
variable {X : Cx} {a b : Expr} {ma mb : EM} {mA : AM} {es : List Expr} {pos p : Pos}
end
def dIxS : D → D → Sto → Option (D × Sto)
  | .str z, .int i, S => if z.length ≤ sizeLine then (atI z.cps.toList i).bind fun c => some (.str ⟨#[c]⟩, S) else none
  | _, _, _ => none
def dIxA : D → D → Sto → Option (D × Sto) := fun x y S => match dIx x y S with | some v => some v | none => dIxS x y S
theorem op3_ixS {K : PySem.W.Frag} : Op3 K dIxS rIxS := by
  intro ρ S H x y x' y' v S' Q sim rx ry h p
  unfold dIxS at h
  split at h
  · cases rx; cases ry
    split at h
    · rename_i hz
      obtain ⟨c, h1, h⟩ := bnd h
      cases h
      exact ⟨_, _, c, rfl, rfl, hz, h1, p ρ H _ (Ext.refl ..) sim (.str _)⟩
    · cases h
  · cases h
theorem op3_ixA {K : PySem.W.Frag} : Op3 K dIxA (rIx K) := by
  intro ρ S H x y x' y' v S' Q sim rx ry hm p
  unfold dIxA at hm
  cases e : dIx x y S with
  | some w => rw [e] at hm; cases hm; exact op3_ix ρ S H x y x' y' _ _ Q sim rx ry e p
  | none => rw [e] at hm; exact .inr (.inr (op3_ixS ρ S H x y x' y' _ _ Q sim rx ry hm p))
def fLenA : FM
  | [.str z], S => if z.length ≤ sizeLine then some (.int z.length, S) else none
  | xs, S => fLen xs S
def fStr : FM
  | [.int i], S => if i.natAbs.log2 < 1920 then some (.str (toString i), S) else none
  | [.str z], S => none
  | _, _ => none
section
variable {X : Cx} {a b : Expr} {ma mb : EM} {mA : AM} {es : List Expr} {pos p : Pos} {K : PySem.W.Frag}
theorem p3_ixA (ha : PE3 X a ma) (hb : PE3 X b mb) (hs : PlainIx b := by intro _ _; rfl) : PE3 X (.Subscript a b pos) (eOp dIxA ma mb) := PE.imp (pe_ix ix_seq ha hb hs) (te_op op3_ixA)
theorem fn3_lenA : Fn3 K fLenA (fun xs H Q => (∃ p ys, xs = [.ref p] ∧ (SqL K H p ys ∨ SqT K H p ys) ∧ Q (.int ys.length) H) ∨ ∃ z, xs = [.str z] ∧ z.length ≤ sizeLine ∧ Q (.int z.length) H) := by
  intro ρ S H xs vs v S' Q sim r h p
  unfold fLenA at h
  split at h
  · obtain ⟨hz, e⟩ := ite_some h
    cases e
    obtain ⟨w, rfl, rw'⟩ := r.one
    cases rw'
    exact .inr ⟨_, rfl, hz, p ρ H _ (Ext.refl ..) sim (.int _)⟩
  · exact .inl (fn3_len ρ S H _ vs v S' Q sim r h p)
theorem p3_lenA (hg : Gl X "len") (hm : X.mg "len" = none) (ha : PA3 X (a :: es) mA) (he : starEach (a :: es) X.env = (false, eval a X.env) :: starEach es X.env := by rfl) (hpl : (backTo pos (starEach es X.env)).any (·.1) = false := by rfl) : PE3 X (.Call (.Name "len" p) (a :: es) [] pos) (eCall fLenA mA) :=
  p3_callB (call_len_seq.or call_len_str) fn3_lenA hg hm PySem.boot_len ha (by decide) (by decide) he hpl
end
end L3
namespace L3
open PySem PySem.Spec PyProof.Rows L2
def dKey : D → Option Key
  | .int i => some (.inl i)
  | .str x => some (.inr x)
  | _ => none
def kvGet (kvs : List (Key × D)) (k : Key) : Option D := (kvs.find? fun kv => decide (kv.1 = k)).map (·.2)
def kvPut (kvs : List (Key × D)) (k : Key) (v : D) : List (Key × D) := if (kvs.any fun kv => decide (kv.1 = k)) = true then kvs.map (fun kv => if kv.1 = k then (kv.1, v) else kv) else kvs ++ [(k, v)]
def dctOf (S : Sto) (n : Nat) : Option (List (Key × D)) := match S[n]? with
  | some (.dct kvs) => some kvs
  | _ => none
section
variable {K : PySem.W.Frag} {ρ : List Addr} {H : Hp} {S : Sto}
theorem kv_get {k : Key} : ∀ {kvs : List (Key × D)} {vs : List V}, RDs ρ H (kvs.map (·.2)) vs → (kvGet kvs k = none → valV ((kvs.map (·.1)).zip vs) k = none) ∧ ∀ d, kvGet kvs k = some d → ∃ v, valV ((kvs.map (·.1)).zip vs) k = some v ∧ RD ρ H d v
  | [], vs, r => by
    cases r
    exact ⟨fun _ => rfl, fun d h => by cases h⟩
  | (k', d') :: kvs, vs, r => by
    cases r with
    | @cons _ v _ vs r1 r2 =>
      by_cases e : k' = k
      · have e1 : kvGet ((k', d') :: kvs) k = some d' := by simp [kvGet, e]
        have e2 : valV ((((k', d') :: kvs).map (·.1)).zip (v :: vs)) k = some v := valV_pos (p := (k', v)) e
        rw [e1, e2]
        exact ⟨fun z => (by cases z), fun d h => (by cases h; exact ⟨v, rfl, r1⟩)⟩
      · have e1 : kvGet ((k', d') :: kvs) k = kvGet kvs k := by simp [kvGet, e]
        have e2 : valV ((((k', d') :: kvs).map (·.1)).zip (v :: vs)) k = valV ((kvs.map (·.1)).zip vs) k := valV_neg (p := (k', v)) e
        rw [e1, e2]
        exact kv_get r2
theorem kv_any (k : Key) : ∀ {kvs : List (Key × D)} {vs : List V}, RDs ρ H (kvs.map (·.2)) vs → (((kvs.map (·.1)).zip vs).any fun kv => decide (kv.1 = k)) = kvs.any fun kv => decide (kv.1 = k)
  | [], vs, r => by cases r; rfl
  | (k', d') :: kvs, vs, r => by
    cases r with
    | @cons _ v _ vs r1 r2 =>
      show (decide (k' = k) || (((kvs.map (·.1)).zip vs).any fun kv => decide (kv.1 = k))) = (decide (k' = k) || _)
      rw [kv_any k r2]
theorem kv_put {k : Key} {d : D} {v : V} (rv : RD ρ H d v) {kvs : List (Key × D)} {vs : List V} (r : RDs ρ H (kvs.map (·.2)) vs) : ∃ ws, putK ((kvs.map (·.1)).zip vs) k v = ((kvPut kvs k d).map (·.1)).zip ws ∧ RDs ρ H ((kvPut kvs k d).map (·.2)) ws := by
  unfold putK kvPut
  rw [kv_any k r]
  by_cases e : (kvs.any fun kv => decide (kv.1 = k)) = true
  · rw [if_pos e, if_pos e]
    clear e
    induction kvs generalizing vs with
    | nil => cases r; exact ⟨[], rfl, .nil⟩
    | cons p kvs ih =>
      obtain ⟨k', d'⟩ := p
      cases r with
      | @cons _ u _ us r1 r2 =>
        obtain ⟨ws, h1, h2⟩ := ih r2
        by_cases e : k' = k
        · refine ⟨v :: ws, ?_, ?_⟩
          · simp only [List.map_cons, List.zip_cons_cons, if_pos e]; rw [← h1]
          · simp only [List.map_cons, if_pos e]; exact .cons rv h2
        · refine ⟨u :: ws, ?_, ?_⟩
          · simp only [List.map_cons, List.zip_cons_cons, if_neg e]; rw [← h1]
          · simp only [List.map_cons, if_neg e]; exact .cons r1 h2
  · rw [if_neg e, if_neg e]
    refine ⟨vs ++ [v], ?_, ?_⟩
    · rw [List.map_append, List.zip_append (by rw [List.length_map]; have := r.length; rw [List.length_map] at this; exact this)]; rfl
    · rw [List.map_append]; exact r.append (.cons rv .nil)
theorem key_kV {d : D} {v : V} {k : Key} (h : dKey d = some k) (r : RD ρ H d v) : v = kV k := by
  cases r <;> first | (cases h; rfl) | cases h
theorem Sim.dct {n : Nat} {kvs : List (Key × D)} (s : Sim K ρ S H) (h : S[n]? = some (.dct kvs)) : ∃ a vs, ρ[n]? = some a ∧ H a = some (.dK ((kvs.map (·.1)).zip vs)) ∧ RDs ρ H (kvs.map (·.2)) vs := by
  have hl : n < ρ.length := by rw [s.len]; exact (List.getElem?_eq_some_iff.mp h).1
  obtain ⟨vs, e, r⟩ := s.at' n _ _ (List.getElem?_eq_getElem hl) h
  exact ⟨_, vs, List.getElem?_eq_getElem hl, e, r⟩
end
section
variable {X : Cx} {a b e : Expr} {ma mb me : EM} {pos pos' : Pos} {k : Nat}
theorem hu_of3 (hr : Room k X.A) : X.A.units + 1 < cLine := by have := hr.un; omega
end
def putD : D → D → D → Sto → Option Sto
  | .ref n, y, v, S => (dctOf S n).bind fun kvs => (dKey y).bind fun k => if kvs.length < sizeLine then some (S.set n (.dct (kvPut kvs k v))) else none
  | _, _, _, _ => none
def gDPut (o i : EM) : GM := fun v l S => (o l S).bind fun p => (i l p.2).bind fun q => (putD p.1 q.1 v q.2).bind fun S' => some (l, S')
theorem plain_dK (kvs : List (Key × V)) : Plain (.dK kvs) := ⟨fun _ z => (by cases z), fun _ _ z => (by cases z)⟩
section
variable {X : Cx} {o i value : Expr} {mo mi mv : EM} {pos pos' : Pos} {k : Nat}
end
section
variable {X : Cx} {pos : Pos}
end
section
variable {X : Cx}
def recvS : D → Option Unit
  | .str _ => some ()
  | _ => none
def eMethS (f : D → List D → Sto → Option (D × Sto)) (o : EM) (as : AM) : EM := fun l S => (o l S).bind fun p => (recvS p.1).bind fun _ => (as l p.2).bind fun q => f p.1 q.1 q.2
variable {o e : Expr} {mo m : EM} {apos cpos : Pos}
end
end L3
namespace L3
open PySem PySem.Spec PyProof.Rows L2
def sgn (z : Str) : List D := z.cps.toList.map fun c => .str ⟨#[c]⟩
def Its (z : Str) : It := ⟨fun i _ => i < z.cps.size, fun i H x H' => H' = H ∧ ∃ c, z.cps[i]? = some c ∧ x = .str ⟨#[c]⟩, fun i _ => z.cps.size ≤ i⟩
theorem sgn_len (z : Str) : (sgn z).length = z.cps.size := by simp [sgn]
theorem itok_str {K : PySem.W.Frag} {ρ : List Addr} {H : Hp} {z : Str} : ItOk K ρ H (itX (sgn z)) (Its z) := by
  intro i ρ' S' H' e s
  refine ⟨fun h => ?_, fun x h => ?_⟩
  · have h : (sgn z)[i]? = none := Option.some.inj h
    have := List.getElem?_eq_none_iff.mp h
    rw [sgn_len] at this
    exact this
  · have h : (sgn z)[i]? = some x := Option.some.inj h
    have hl := (List.getElem?_eq_some_iff.mp h).1
    rw [sgn_len] at hl
    refine ⟨hl, fun y H'' ⟨e1, c, e2, e3⟩ => ⟨e1, ?_⟩⟩
    subst e3
    unfold sgn at h
    rw [List.getElem?_map] at h
    have e4 : z.cps.toList[i]? = some c := by simpa using e2
    rw [e4] at h
    cases h
    exact .str _
section
variable {P : Program} {w : World} {K : PySem.W.Frag} {elts : List Expr} {z : Nat} {tp : Pos}
theorem turn_enumS (x : Str) (t : Tok) (T : String) (e b : Addr) (heb : e ≠ b) (Dr : ∀ A : Around, A.handled = none → Draws P w A b [b] x.cps.size (fun i v => ∃ c u, x.cps[i]? = some c ∧ v = .str ⟨#[c]⟩ u) (fun i h => h.IsStrIter b T x t i)) :
    Turn P w K (.Tuple elts z tp) (Itn (Its x)) [e, b] e (fun i h => (∃ old, IsEnum h e b i old) ∧ (h.IsStrIter b T x t i ∧ i ≤ x.cps.size)) where
  mem := by simp
  obj := fun i h st => enum_obj (T := fun h => h.IsStrIter b T x t i ∧ i ≤ x.cps.size) (fun h ⟨⟨o, q, c, d⟩, _⟩ => ⟨o, q, fun v z => by rw [d] at z; cases z⟩) i h st
  keep := fun i h h1 st k => ⟨let ⟨old, q⟩ := st.1; ⟨old, k e (by simp) _ q⟩, let ⟨⟨o, q, r⟩, l⟩ := st.2; ⟨⟨o, k b (by simp) o q, r⟩, l⟩⟩
  item := by
    intro X hP hw hK hc i pins s σ H E I hf st hg
    subst hP hw hK
    obtain ⟨⟨old, he⟩, hb, hle⟩ := st
    have hlt : i < x.cps.size := hg
    refine wpAny_pyNext_enum_itemD (Dr X.A.in1 (I.ok.hd hc)) he hb hlt heb (by simp [heb]) fun x1 h1 tk hP ho hs1 hT hsz hk => ?_
    obtain ⟨c, u, hc1, rfl⟩ := hP
    obtain ⟨ob, gb, _⟩ := id hb
    refine ⟨_, rfl, wpAny_letOwnedTupleGo_enum ho fun h2 he2 hs2 => ?_⟩
    replace hs2 : Heap.SameBut e h1 h2 := hs2
    exact enum_behind (J := Its x) (x := .str ⟨#[c]⟩) (T := fun h => h.IsStrIter b T x t (i + 1) ∧ i + 1 ≤ x.cps.size) I hf ⟨u, rfl⟩ (Heap.lt_size he) (Heap.lt_size gb) hk hT he2 hs2 ⟨let ⟨o, q, r⟩ := hs1; ⟨o, (hs2.2 b heb.symm).trans q, r⟩, hlt⟩ ⟨rfl, c, hc1, rfl⟩
  done := by
    intro X hP hw hK hc i pins s σ H E I hf st hg
    subst hP hw hK
    obtain ⟨⟨old, he⟩, hb, hle⟩ := st
    have hge : x.cps.size ≤ i := hg
    have hi : i = x.cps.size := by omega
    subst hi
    obtain ⟨f0, f1, f2, f3, f4, f5⟩ := hf b (by simp)
    exact wpAny_pyNext_enum_endD (Dr X.A.in1 (I.ok.hd hc)) he hb fun h1 eb => ⟨rfl, I.turned (t' := s.toks) (fun c o hb q => eb c o hb q) f0 f1 f3 f4 f5⟩
  self := fun A i s Q E st h => let ⟨old, q⟩ := st.1; wpAny_pyIter_enum q h
end
section
variable {X : Cx} {elts : List Expr} {z : Nat} {tp : Pos}
def iEnS (ta : TA) : TI := fun σ H R => ta σ H fun vs H1 => ∃ x, vs = [.str x] ∧ R (Itn (Its x)) H1
theorem pi_enumS {a : Expr} {ta : TA} {p pos : Pos} (hg : Gl X "enumerate") (hm : X.mg "enumerate" = none) (ha : PA X [a] ta) (hs : starEach [a] X.env = [(false, eval a X.env)] := by rfl) : PI X (.Tuple elts z tp) (.Call (.Name "enumerate" p) [a] [] pos) (iEnS ta) := by
  intro pins s σ H R I h
  refine Call_ (ld_blt I hg hm boot_enum (PyProof.Rows.callWith_type1 (thn (ha pos pins s σ H _ I h) fun us s1 ⟨vs, H1, I1, r1, q1⟩ => ?_) hs rfl))
  obtain ⟨x, rfl, q⟩ := q1
  cases r1 with
  | cons r rr =>
    cases rr
    obtain ⟨t, rfl⟩ := r
    refine call_enumerate_str fun h1 he hb _ hk => ?_
    cases hall : x.cps.all (· < 128)
    · have hb' : h1.IsStrIter s1.heap.objs.size "str_iterator" x t 0 := by simpa [strIterType, hall] using hb
      exact pie_enum (T := fun i h => h.IsStrIter s1.heap.objs.size "str_iterator" x t i ∧ i ≤ x.cps.size) I1 (turn_enumS x t _ _ _ (Nat.succ_ne_self _) fun A hA => Draws.strWide hA _ x t) he ⟨hb', Nat.zero_le _⟩ hk q
    · have hb' : h1.IsStrIter s1.heap.objs.size "str_ascii_iterator" x t 0 := by simpa [strIterType, hall] using hb
      exact pie_enum (T := fun i h => h.IsStrIter s1.heap.objs.size "str_ascii_iterator" x t i ∧ i ≤ x.cps.size) I1 (turn_enumS x t _ _ _ (Nat.succ_ne_self _) fun A hA => Draws.strAscii hA _ x t) he ⟨hb', Nat.zero_le _⟩ hk q
end
def tiL (K : PySem.W.Frag) (im : IM) : TI := fun σ H R => ∃ ρ l S it k S', Sim K ρ S H ∧ RO ρ H l σ ∧ im l S = some (it, k, S') ∧ ∀ ρ' H' J, Ext ρ H ρ' H' → Sim K ρ' S' H' → ItLay K ρ' H' it J → R J H'
def PIL3 (X : Cx) (tgt iter : Expr) (im : IM) : Prop := PI X tgt iter (tiL X.K im)
def iEnumA (m : AM) : IM := fun l S => (m l S).bind fun p => match p.1 with
  | [.tup xs] => some (itN (itX xs), xs.length + 1, p.2)
  | [.ref n] => (lstOf p.2 n).bind fun xs => some (itN (itL n), xs.length + 1, p.2)
  | [.str z] => some (itN (itX (sgn z)), z.cps.size + 1, p.2)
  | _ => none
section
variable {X : Cx} {elts : List Expr} {z : Nat} {tp : Pos} {a : Expr} {mA : AM} {g : GM} {b : SM} {body : List Stmt} {p0 pos' pos : Pos}
theorem i3_enum (hgl : Gl X "enumerate") (hmg : X.mg "enumerate" = none) (ha : PA3 X [a] mA) (hst : starEach [a] X.env = [(false, eval a X.env)] := by rfl) : PIL3 X (.Tuple elts z tp) (.Call (.Name "enumerate" p0) [a] [] pos') (iEnumA mA) :=
  PI.imp (PI.or (PI.or (pi_enumL hgl hmg ha hst) (pi_enumT hgl hmg ha hst)) (pi_enumS hgl hmg ha hst)) fun σ H R ⟨ρ, l, S, it, k, S', sim, ro, hm, p⟩ => by
    obtain ⟨⟨xs, S2⟩, q2, q1⟩ := bnd hm
    dsimp only at q1
    split at q1
    · rename_i ys
      cases q1
      refine .inl (.inr ⟨ρ, l, S, [.tup ys], _, sim, ro, q2, fun ρ1 H1 vs e1 s1 r1 => ?_⟩)
      obtain ⟨v, rfl, rv⟩ := r1.one
      cases rv with
      | @tup _ c us hc' r => exact ⟨c, rfl, ⟨us, SqT.of hc'⟩, p ρ1 H1 _ e1 s1 (itok_enum (itok_tup hc' r))⟩
    · rename_i n
      obtain ⟨ys, hx, q1⟩ := bnd q1
      cases q1
      refine .inl (.inl ⟨ρ, l, S, [.ref n], _, sim, ro, q2, fun ρ1 H1 vs e1 s1 r1 => ?_⟩)
      obtain ⟨v, rfl, rv⟩ := r1.one
      obtain ⟨c, us, hc', sq, rv'⟩ := s1.lstOf hx
      cases rv with
      | ref hn =>
        rw [hc'] at hn; cases hn
        exact ⟨c, rfl, ⟨us, sq⟩, p ρ1 H1 _ e1 s1 (itok_enum (itok_lst hc'))⟩
    · rename_i y
      cases q1
      refine .inr ⟨ρ, l, S, [.str y], _, sim, ro, q2, fun ρ1 H1 vs e1 s1 r1 => ?_⟩
      obtain ⟨v, rfl, rv⟩ := r1.one
      cases rv
      exact ⟨y, rfl, p ρ1 H1 _ e1 s1 (itok_enum itok_str)⟩
    · cases q1
theorem s3_forL {tgt iter : Expr} {im : IM} (hp : PassesOwn (model X.prog X.w) X.A X.env X.xe) (hc : X.calm = true) (hi : PIL3 X tgt iter im) (hg : PG3 X tgt g) (hb : PSs3 X body b) (hs : ∀ x, foldedSetIterable iter X.env x = pure x := by intro _; rfl) :
    PS3 X (.For tgt iter body [] pos) (sForI im g b) :=
  PS.imp (ps_for hp hc hi hg hb hs) fun E σ H ⟨ρ, l, S, f, l', S', sim, ro, hm, p⟩ => by
    obtain ⟨⟨it, k, S1⟩, q1, hm⟩ := bnd hm
    exact ⟨ρ, l, S, it, k, S1, sim, ro, q1, fun ρ1 H1 J e1 s1 ok => loopI ok s1 (ro.mono e1) hm fun ρ' H' σ' e' => p ρ' H' σ' (e1.trans e')⟩
end
end L3
namespace L3
open PySem PySem.Spec PyProof.Rows L2
section
variable {X : Cx} {a b : Expr} {ma mb : EM} {pos : Pos} {k : Nat}
end
end L3
namespace L3
open PySem PySem.Spec PyProof.Rows L2
def rSlS : V → Option Int → Option Int → Hp → VK → Prop := fun x lo hi H Q => ∃ z, x = .str z ∧ z.length ≤ sizeLine ∧ Q (.str (Txt.slice z lo hi)) H
theorem part_of {v : Value} {o : Option Int} (h : IsPart v o) : ∃ l : Option (Int × Tok), v = partValue l ∧ o = l.map (·.1) := by
  cases h with
  | none => exact ⟨none, rfl, rfl⟩
  | int i t => exact ⟨some (i, t), rfl, rfl⟩
theorem sl_str {X : Cx} : SlR X rSlS := by
  intro pins s σ H x v vl vu lo hi sl Q I rx hs pl pu h
  obtain ⟨z, rfl, hz, q⟩ := h
  obtain ⟨t, rfl⟩ := rx
  obtain ⟨l, rfl, rfl⟩ := part_of pl
  obtain ⟨u, rfl, rfl⟩ := part_of pu
  refine ⟨"str", _, F.slot_str_getitem.lookup, typeIs_str _ _ _, ?_⟩
  refine wpAny_getItem_str_slice (l := l) (u := u) (st := none) hs rfl ?_
  refine post_val_or_str ⟨Nat.le_trans (Txt.slice_le z _ _) hz, fun t' k => ?_⟩
  exact ⟨.str _, H, I.tok _, ⟨t', rfl⟩, q⟩
def eSlA (m : EM) (lo hi : OM) : EM := fun l S => (m l S).bind fun p => (lo l p.2).bind fun q => (hi l q.2).bind fun r => match p.1 with
  | .tup xs => some (.tup (cutD xs q.1 r.1), r.2)
  | .ref n => (lstOf r.2 n).bind fun xs => some (.ref r.2.length, r.2 ++ [.lst (cutD xs q.1 r.1)])
  | .str z => if z.length ≤ sizeLine then some (.str (Txt.slice z q.1 r.1), r.2) else none
  | _ => none
section
variable {X : Cx} {a : Expr} {ma : EM} {lo hi : Option Expr} {ml mh : OM} {p2 pos : Pos}
theorem p3_slA (he : PE3 X a ma) (hl : PO3 X lo ml) (hu : PO3 X hi mh) : PE3 X (.Subscript a (.Slice lo hi none p2) pos) (eSlA ma ml mh) := PE.imp (pe_slice (((sl_tup.or sl_tupW).or sl_list).or sl_str) he hl hu) fun σ H Q ⟨ρ, l, S, v, S', sim, ro, hm, p⟩ => by
  obtain ⟨⟨x, S1⟩, h1, hm⟩ := bnd hm
  obtain ⟨⟨y, S2⟩, h2, hm⟩ := bnd hm
  obtain ⟨⟨z, S3⟩, h3, hm⟩ := bnd hm
  refine ⟨ρ, l, S, x, S1, sim, ro, h1, fun ρ1 H1 x' e1 s1 r1 => ⟨ρ1, l, S1, y, S2, s1, ro.mono e1, h2, fun ρ2 H2 e2 s2 => ⟨ρ2, l, S2, z, S3, s2, ro.mono (e1.trans e2), h3, fun ρ3 H3 e3 s3 => ?_⟩⟩⟩
  have e13 := e1.trans (e2.trans e3)
  cases r1 with
  | @tup xs a vs ha r =>
    cases hm
    have ha3 := (e2.trans e3).tup _ _ ha
    have r3 := r.mono (e2.trans e3)
    have hlen := r.length
    by_cases hw : HT.sIx vs.length 0 y = 0 ∧ HT.sIx vs.length vs.length z = vs.length
    · refine .inl (.inl (.inr ⟨a, vs, rfl, SqT.of ha3, hw, ?_⟩))
      have := cut_whole xs y z (by rw [hlen]; exact hw)
      dsimp only at p
      rw [this] at p
      exact p ρ3 H3 _ e13 s3 (.tup ha3 r3)
    · refine .inl (.inl (.inl ⟨a, vs, rfl, SqT.of ha3, hw, ?_⟩))
      have rc : RDs ρ3 H3 (cutD xs y z) (cutV vs y z) := by
        unfold cutD cutV
        rw [hlen]
        exact (r3.drop _).take _
      exact new_tup s3 rc (Pv.ext p e13)
  | @ref j b hj =>
    obtain ⟨xs, hx, hm⟩ := bnd (show (lstOf S3 j).bind (fun xs => some (D.ref S3.length, S3 ++ [.lst (cutD xs y z)])) = some (v, S') from hm)
    cases hm
    obtain ⟨c, us, hc, sq, rv⟩ := s3.lstOf hx
    have := (e2.trans e3).pre _ _ hj
    rw [this] at hc; cases hc
    have rc : RDs ρ3 H3 (cutD xs y z) (cutV us y z) := by
      unfold cutD cutV
      rw [rv.length]
      exact (rv.drop _).take _
    exact .inl (.inr ⟨b, us, rfl, sq, new_lst s3 rc (Pv.ext p e13)⟩)
  | str t =>
    obtain ⟨hz, e⟩ := ite_some (show (if t.length ≤ sizeLine then some (D.str (Txt.slice t y z), S3) else none) = some (v, S') from hm)
    cases e
    exact .inr ⟨t, rfl, hz, p ρ3 H3 _ e13 s3 (.str _)⟩
  | _ => cases hm
end
def dPlusS : D → D → Sto → Option (D × Sto)
  | .str i, .str j, S => if i.length + j.length ≤ sizeLine then some (.str (i ++ j), S) else none
  | _, _, _ => none
def dPlusA : D → D → Sto → Option (D × Sto) := fun x y S => match dPlusS x y S with | some v => some v | none => dPlus x y S
theorem op3_plusS {K : PySem.W.Frag} : Op3 K dPlusS (fun x y H Q => ∃ i j, x = .str i ∧ y = .str j ∧ i.length + j.length ≤ sizeLine ∧ Q (.str (i ++ j)) H) := by
  intro ρ S H x y x' y' v S' Q sim rx ry h p
  unfold dPlusS at h
  split at h
  · obtain ⟨hz, e⟩ := ite_some h
    cases e; cases rx; cases ry
    exact ⟨_, _, rfl, rfl, hz, p ρ H _ (Ext.refl ..) sim (.str _)⟩
  · cases h
theorem p3_plusA {X : Cx} {a b : Expr} {ma mb : EM} {pos : Pos} (ha : PE3 X a ma) (hb : PE3 X b mb) : PE3 X (.BinOp a .Add b pos) (eOp dPlusA ma mb) := p3_op (op_add_str.or (op_add.or ((op_catT.or op_catT0).or op_cat))) (op3_plusS.or op3_plus) ha hb
def fIntA : FM
  | [.str z], S => (intText? z).bind fun n => if z.length ≤ 640 then some (.int n, S) else none
  | xs, S => fInt xs S
section
variable {X : Cx} {a : Expr} {es : List Expr} {mA : AM} {pos p : Pos} {K : PySem.W.Frag}
end
section
variable {X : Cx}
variable {o e f : Expr} {mo m m' : EM} {apos cpos : Pos}
end
end L3
namespace L3
open PySem PySem.Spec PyProof.Rows L2
section
variable {X : Cx}
variable {a : Expr} {es : List Expr} {mA : AM} {p pos : Pos}
end
def IsRevT (h : Heap) (a t : Addr) (i : Int) : Prop := ∃ o, h.get? a = some o ∧ o.cls = .type "reversed" ∧ o.data = .fields #[.ref t, rawInt i]
section
variable {prog : Program} {w : World} {A : Around} {E : Value → Shared → Prop} {s : Shared}
theorem IsRevT.typeIs {a t : Addr} {i : Int} (x : IsRevT s.heap a t i) : s.TypeIs (.ref a) "reversed" := let ⟨o, ho, hc, _⟩ := x; ⟨o, ho, hc⟩
end
section
variable {P : Program} {w : World} {K : PySem.W.Frag} {tg : Expr}
end
section
variable {X : Cx} {tg : Expr}
end
section
variable {X : Cx} {tgt : Expr} {a : Expr} {mA : AM} {p0 pos' : Pos}
end
end L3
namespace L3
open PySem PySem.Spec PyProof.Rows L2
section
variable {X : Cx}
variable {a : Expr} {es : List Expr} {mA : AM} {pos p : Pos}
end
section
variable {X : Cx} {a b : Expr} {ma mb : EM} {pos : Pos}
end
end L3
namespace L3
open PySem PySem.Spec PyProof.Rows L2
section
variable {prog : Program} {w : World} {A : Around} {R : Result → Shared → Prop} {s : Shared}
theorem compLoopD {elt vx target iter : Expr} {ifs : List Expr} {scope : Scope} {pos : Pos} {it : Value} {D : Addr} {env : Env} (I : Nat → Shared → Prop)
    (turn : ∀ n s, I n s → wpAny (model prog w) A (pyNext it) (fun r s₁ => match r with
      | none => R (.ok .next) s₁
      | some v => wpAny (model prog w) A (letOwnedTupleGo target it v) (fun _ s₁' => wpAny (model prog w) A (assign target env v) (fun _ s₂ =>
          wpAny (model prog w) A (forIn ifs true fun c r => if r = true then do let ok ← isTrue c env (eval c env); pure (ForInStep.yield ok) else pure (ForInStep.yield r)) (fun ok s₃ =>
            if ok = true then wpAny (model prog w) A (eval elt env) (fun kv s₄ => wpAny (model prog w) A (eval vx env) (fun vv s₅ =>
              wpAny (model prog w) A (dictSet D kv vv) (fun _ s₆ => ∃ m, m < n ∧ I m s₆) (fun _ _ => False) s₅) (fun _ _ => False) s₄) (fun _ _ => False) s₃
            else ∃ m, m < n ∧ I m s₃) (fun _ _ => False) s₂) (fun _ _ => False) s₁') (fun _ _ => False) s₁) (fun _ _ => False) s)
    (n : Nat) (h : I n s) :
    codeAny (model prog w) A (.compLoop (.DictComp elt vx [⟨target, iter, ifs, 0⟩] scope pos) 0 it (.ref D) env) R s := by
  refine codeAny_loop rfl I (fun n s hI => ?_) n h
  show wpAny _ A ((compTurn (.DictComp elt vx [⟨target, iter, ifs, 0⟩] scope pos) 0 it (.ref D) env).onRaise (fun x => do noteFrame x env; theTreesLotGoes x)) _ _ s
  refine wpAny_noted ?_
  rw [compTurn_dict]
  refine wpAny_bind (wpAny_standAt (wpAny_bind (wpAny_mono (turn n s hI) (fun r s₁ h₁ => ?_) fun _ _ h' => h'.elim)))
  cases r with
  | none => exact wpAny_pure h₁
  | some v =>
    refine wpAny_bind (wpAny_mono h₁ (fun _ s₁' h₁ => ?_) fun _ _ h' => h'.elim)
    refine wpAny_bind (wpAny_mono h₁ (fun _ s₂ h₂ => wpAny_bind (wpAny_mono h₂ (fun ok s₃ h₃ => ?_) fun _ _ h' => h'.elim)) fun _ _ h' => h'.elim)
    cases ok with
    | false => exact wpAny_pure ⟨rfl, h₃⟩
    | true =>
      exact wpAny_bind (wpAny_bind (wpAny_mono h₃ (fun kv s₄ h₄ => wpAny_bind (wpAny_holding (wpAny_mono h₄ (fun vv s₅ h₅ => wpAny_bind (wpAny_standAt (wpAny_holding (wpAny_mono h₅ (fun _ s₆ h₆ => wpAny_pure ⟨rfl, h₆⟩) fun _ _ h' => h'.elim)))) fun _ _ h' => h'.elim))) fun _ _ h' => h'.elim))
end
end L3
namespace L3
open PySem PySem.Spec PyProof.Rows L2
def ePair (k v : EM) : EM := fun l S => (k l S).bind fun p => (v l p.2).bind fun q => some (.tup [p.1, q.1], q.2)
section
variable {K : PySem.W.Frag} {ρ : List Addr} {H : Hp} {S : Sto}
theorem Sim.besideG {a : Addr} {u0 u : HO} (s : Sim K ρ S H) (ha : H a = some u0) (hu : Plain u0) (hn : ∀ n : Nat, ρ[n]? ≠ some a) : Sim K ρ S (upd H a u) :=
  ⟨s.len, s.nd, fun n b o h1 h2 => (s.at' n b o h1 h2).writtenG ha hu fun _ z => hn n (by rw [h1, z])⟩
theorem Ext.besideG {a : Addr} {u0 u : HO} {ρ0 : List Addr} {H0 : Hp} (e : Ext ρ0 H0 ρ H) (h0 : H0 a = none) (ha : H a = some u0) (hu : Plain u0) : Ext ρ0 H0 ρ (upd H a u) :=
  ⟨⟨e.pre, fun b vs h => by rw [upd_ne (ne_of (e.tup b vs h) ha (fun z => hu.1 vs z.symm))]; exact e.tup b vs h, fun b o vs h => by rw [upd_ne (ne_of (e.frz b o vs h) ha (fun z => hu.2 o vs z.symm))]; exact e.frz b o vs h⟩, fun b vs h n => ⟨by rw [upd_ne (ne_of_none h h0)]; exact (e.out b vs h n).1, (e.out b vs h n).2⟩⟩
theorem Sim.adoptG {a : Addr} {o1 : Ob} (s : Sim K ρ S H) (ha : ObR K ρ H o1 a) (hn : ∀ n : Nat, ρ[n]? ≠ some a) : Sim K (ρ ++ [a]) (S ++ [o1]) H := by
  refine ⟨by simp [s.len], fun i j b x1 x2 h1 h2 h3 h4 m1 m2 => ?_, fun n b o h1 h2 => ?_⟩
  · have hl := s.len
    rcases get_push h1 with g1 | ⟨e1, f1⟩ <;> rcases get_push h2 with g2 | ⟨e2, f2⟩
    · have l1 := (List.getElem?_eq_some_iff.mp g1).1
      have l2 := (List.getElem?_eq_some_iff.mp g2).1
      rcases get_push h3 with g3 | ⟨e3, _⟩ <;> rcases get_push h4 with g4 | ⟨e4, _⟩
      · exact s.nd i j b x1 x2 g1 g2 g3 g4 m1 m2
      · omega
      · omega
      · omega
    · subst f2; exact absurd g1 (hn i)
    · subst f1; exact absurd g2 (hn j)
    · omega
  · rcases get_push h1 with h1 | ⟨e1, f1⟩
    · rcases get_push h2 with h2 | ⟨e2, f2⟩
      · exact (s.at' n b o h1 h2).more ext0_push
      · have := (List.getElem?_eq_some_iff.mp h1).1; have := s.len; omega
    · subst f1
      rcases get_push h2 with h2 | ⟨e2, f2⟩
      · have := (List.getElem?_eq_some_iff.mp h2).1; have := s.len; omega
      · subst f2
        exact ha.more ext0_push
end
theorem zip_len {ρ : List Addr} {H : Hp} {kvs : List (Key × D)} {vs : List V} (r : RDs ρ H (kvs.map (·.2)) vs) : ((kvs.map (·.1)).zip vs).length = kvs.length := by
  rw [List.length_zip, List.length_map]; have := r.length; rw [List.length_map] at this; omega
end L3
namespace L3
open PySem PySem.Spec PyProof.Rows L2
def kD : Key → D
  | .inl i => .int i
  | .inr x => .str x
theorem rd_kD {ρ : List Addr} {H : Hp} (k : Key) : RD ρ H (kD k) (kV k) := by
  cases k with
  | inl i => exact .int i
  | inr x => exact .str x
section
variable {X : Cx} {tg : Expr}
end
section
variable {X : Cx} {tgt iter : Expr} {m : EM}
end
section
variable {X : Cx} {a b : Expr} {ma mb : EM} {pos : Pos} {k : Nat}
end
end L3
namespace L3
open PySem PySem.Spec PyProof.Rows L2
def relS (scope scO : Scope) : Scope := { scope with names := scope.names.map fun (n, k) => if (k == .free && scO.kind == .function && scO.names.lookup n == some .cell) then (n, .cell) else (n, k) }
theorem relS_eq (scope : Scope) (env : Env) : relabel scope env = relS scope env.scope := rfl
end L3
namespace L3
open PySem PySem.Spec PyProof.Rows L2 PySem.W
structure Tr (fs : List Addr) (e T : Addr) (h h' : Heap) : Prop where
  keep : ∀ b o, b ∉ fs → b ≠ e → b ≠ T → h.get? b = some o → h'.get? b = some o
  slot : ∀ b o, b ∈ fs → h.get? b = some o → (∀ vs, o.data ≠ .fields vs) → ∃ sl, h'.get? b = some { o with slots := sl }
section
variable {M : Model} {A : Around} {E : Value → Shared → Prop} {s : Shared} {base : Heap} {env : Env} {outer : List Env} {L e C T : Addr} {Q : Unit → Shared → Prop}
end
end L3
namespace L3
open PySem PySem.Spec PyProof.Rows L2 PySem.W
theorem ObjOk.there {P : Program} {w : World} {H : Hp} {h : Heap} {a : Addr} {o : HO} (x : ObjOk P w H h a o) : ∃ q, h.get? a = some q := by
  cases o with
  | lst xs => obtain ⟨_, _, _, _, e⟩ := x; exact ⟨_, e⟩
  | tup xs => obtain ⟨_, _, _, ob, e, _⟩ := x; exact ⟨_, e⟩
  | dK kvs => obtain ⟨_, _, _, _, o, _, _, e, _⟩ := x; exact ⟨_, e⟩
  | dT kvs => obtain ⟨_, _, _, _, o, _, _, e, _⟩ := x; exact ⟨_, e⟩
  | set S n => obtain ⟨o, _, _, _, e, _⟩ := x; exact ⟨_, e⟩
  | ins C dx fs => obtain ⟨_, _, _, e, _⟩ := x; exact ⟨_, e⟩
  | own y => obtain ⟨_, e⟩ := x; exact ⟨_, e⟩
  | xd fs => obtain ⟨_, ⟨_, _, _, e, _⟩, _⟩ := x; exact ⟨_, e⟩
  | rng lo hi => obtain ⟨_, _, _, e⟩ := x; exact ⟨_, e⟩
  | frz ob u => obtain ⟨e, _⟩ := x; exact ⟨_, e⟩
  | tbl ps => exact ⟨_, x⟩
  | met f y => exact ⟨_, x⟩
  | ext φ => obtain ⟨_, e, _⟩ := x; exact e
section
variable {P : Program} {w : World} {K : PySem.W.Frag} {mg : Str → Option Value} {base : Heap} {N : List Str} {qual : Str} {scope : Scope} {f : Addr} {cd : Value} {A : Around} {outer : List Env} {s : Shared} {H : Hp} {E : XK}
end
end L3
namespace L3
open PySem PySem.Spec PyProof.Rows L2 PySem.W
abbrev ZM := Lo → Sto → Option (Str × Sto)
abbrev ZF := List D → Sto → Option (Str × Sto)
def Rz (K : PySem.W.Frag) (E : XK) (CA : Str → Addr) (r : ZM) : L2.St → Hp → Prop := fun σ H => ∃ ρ l S C S', Sim K ρ S H ∧ RO ρ H l σ ∧ r l S = some (C, S') ∧ ∀ ρ' H', Ext ρ H ρ' H' → Sim K ρ' S' H' → E (.ref (CA C)) none H'
def zNone : ZM := fun _ _ => none
section
variable {X : Cx} {E : XK} {CA : Str → Addr} {e : Expr} {es : List Expr} {st : Stmt} {rest : List Stmt} {r q : ZM} {m : EM} {b : SM} {pos : Pos}
theorem Rz.none {K : PySem.W.Frag} {σ : L2.St} {H : Hp} (h : Rz K E CA zNone σ H) : False := by
  obtain ⟨ρ, l, S, C, S', sim, ro, hm, p⟩ := h; cases hm
end
section
variable {X : Cx} {E : XK} {CA : Str → Addr} {a : Expr} {es : List Expr} {mA : AM} {pos p : Pos} {x : Str} {k j n : Nat} {rx : ZF}
end
section
variable {P : Program} {w : World} {K : PySem.W.Frag} {mg : Str → Option Value} {base : Heap} {N : List Str} {qual : Str} {scope : Scope} {f : Addr} {cd : Value} {A : Around} {outer : List Env} {s : Shared} {H : Hp} {E : XK} {CA : Str → Addr}
end
end L3
namespace L3
open PySem PySem.Spec PyProof.Rows L2 PySem.W
section
variable {M : Model} {A : Around} {E : Value → Shared → Prop} {s : Shared} {base : Heap} {env : Env} {outer l : List Env} {L e C T : Addr} {Q : Unit → Shared → Prop}
end
section
variable {X : Cx} {pins : List (Addr × Obj)} {σ : L2.St} {H : Hp} {s : Shared} {h' : Heap} {a T : Addr} {t' : Nat}
theorem Inv.tr (I : Inv X pins σ H s) (hex : X.ex = []) (tr : Tr (frs X.stack) a T s.heap h') (na : X.s₀.heap.get? a = none) (nT : X.s₀.heap.get? T = none) (ha : H a = none) (hT : H T = none)
    (oL : X.env.locals ≠ a ∧ X.env.locals ≠ T) (oC : ∀ x c, X.env.cells.lookup x = some c → c ≠ a ∧ c ≠ T) (oP : ∀ p ∈ X.pn ++ pins, p.1 ≠ a ∧ p.1 ≠ T) : Inv X pins σ H { s with heap := h', toks := t' } := by
  have kp : ∀ b o, (∀ vs, o.data ≠ .fields vs) → b ≠ a → b ≠ T → s.heap.get? b = some o → ∃ sl, h'.get? b = some { o with slots := sl } := fun b o hn h1 h2 q => by
    by_cases hb : b ∈ frs X.stack
    · exact tr.slot b o hb q hn
    · exact ⟨o.slots, tr.keep b o hb h1 h2 q⟩
  have hne : ∀ b o, X.s₀.heap.get? b = some o → b ≠ a ∧ b ≠ T ∧ b ≠ X.env.locals := fun b o q => ⟨fun z => (by rw [z, na] at q; cases q), fun z => (by rw [z, nT] at q; cases q), Nat.ne_of_lt (Nat.lt_of_lt_of_le (Heap.lt_size q) I.ok.above)⟩
  have nex : ∀ b, b ∉ X.ex := fun b => by rw [hex]; simp
  refine ⟨I.ok, I.os, I.bare, ⟨fun b o q n hb hx => ?_, fun b o q n hb hx => ?_, I.base.free, fun b o q hx => ?_, I.base.tups, I.base.frzs, I.base.tbls⟩, ?_, fun x c e => ?_, I.free, I.freeC, fun p hp => ?_, fun b u e => ?_, I.len⟩
  · obtain ⟨h1, h2, h3⟩ := hne b o q
    exact tr.keep b o (fun z => (List.mem_cons.mp (I.stkSub b z)).elim h3 hb) h1 h2 (I.base.keep b o q n hb hx)
  · obtain ⟨h1, h2, h3⟩ := hne b o q
    obtain ⟨sl, e⟩ := I.base.slot b o q n hb hx
    obtain ⟨_, o2, ho2, hnf⟩ := I.funs.mem hb
    rw [e] at ho2; cases ho2
    obtain ⟨sl', e'⟩ := kp b _ hnf h1 h2 e
    exact ⟨sl', e'⟩
  · obtain ⟨h1, h2, h3⟩ := hne b o q
    obtain ⟨o', e⟩ := I.base.there b o q hx
    by_cases hb : b ∈ frs X.stack
    · obtain ⟨_, o2, ho2, hnf⟩ := I.stack.mem hb
      rw [e] at ho2; cases ho2
      obtain ⟨sl, e'⟩ := tr.slot b _ hb e hnf
      exact ⟨_, e'⟩
    · exact ⟨o', tr.keep b o' hb h1 h2 e⟩
  · obtain ⟨m, ⟨o, es, ep, ho, hd, hr⟩, hl⟩ := I.loc
    obtain ⟨sl, e'⟩ := kp _ o (fun vs z => by rw [hd] at z; cases z) oL.1 oL.2 ho
    refine ⟨m, ⟨_, es, ep, e', hd, hr⟩, fun i x v h1 h2 h3 => ?_⟩
    obtain ⟨u, r, lk⟩ := hl i x v h1 h2 h3
    refine ⟨u, r, ?_⟩
    rcases lk with lk | ⟨k, c, hc, oc, hoc, hdc⟩
    · exact .inl lk
    · obtain ⟨sl2, e2⟩ := kp c oc (fun vs z => by rw [hdc] at z; cases z) (oC x c hc).1 (oC x c hc).2 hoc
      exact .inr ⟨k, c, hc, _, e2, hdc⟩
  · obtain ⟨v, o, ho, hd⟩ := I.cell x c e
    obtain ⟨sl2, e2⟩ := kp c o (fun vs z => by rw [hd] at z; cases z) (oC x c e).1 (oC x c e).2 ho
    exact ⟨v, _, e2, hd⟩
  · obtain ⟨e, n, ne, nf, d⟩ := I.pin p hp
    exact ⟨tr.keep _ _ (fun z => (List.mem_cons.mp (I.stkSub _ z)).elim ne nf) (oP p hp).1 (oP p hp).2 e, n, ne, nf, d⟩
  · refine (I.hok b u e).stay (fun c v hc q => ?_) (fun _ q => q) fun _ _ q => q
    have hcn : H c ≠ none := by
      rcases hc with z | z
      · rw [z, e]; intro y; cases y
      · rw [z]; intro y; cases y
    exact tr.keep c v (fun z => hcn (I.stkFree c z)) (fun z => hcn (by rw [z]; exact ha)) (fun z => hcn (by rw [z]; exact hT)) q
end
section
variable {M : Model} {A : Around} {E : Value → Shared → Prop} {h : Heap} {g : Array GenState} {d : Drawn} {t : Nat} {os : OsState}
variable {nm q nm' q' : Str} {C N D N' : Addr} {bs bm bs' bm' : List Value} {hdct hdct' : Bool} {sn sn' : List Str} {sub sub' : List Value} {ab ab' : Bool} {col col' : Option Bool} {dd dd' : Option Addr} {k0 k1 k2 k3 k5 k0' k1' k2' k3' k5' : Option Value} {newId newId' : String}
end
end L3
namespace L3
open PySem PySem.Spec PyProof.Rows L2 PySem.W
section
variable {X : Cx} {pins : List (Addr × Obj)} {σ : L2.St} {H : Hp} {s : Shared} {a C T : Addr} {e : Value}
end
end L3
namespace L3
open PySem PySem.Spec PyProof.Rows L2 PySem.W
section
variable {X : Cx} {pins : List (Addr × Obj)} {σ : L2.St} {tS : TS} {i : Nat} {Dh : Addr} {n hx : Str} {np hpos : Pos} {b0 : Stmt} {suite : List Stmt}
end
end L3
namespace L3
open PySem PySem.Spec PyProof.Rows L2 PySem.W
section
variable {X : Cx} {E : XK} {CA : Str → Addr} {a : Expr} {es : List Expr} {mA : AM} {cpos p apos py tpos : Pos} {x y : Str} {k j n : Nat} {rx : ZF}
variable {tN tS : TS} {i : Nat} {Dh : Addr} {nm hx : Str} {np hpos : Pos} {b0 : Stmt} {suite : List Stmt}
end
section
variable {X : Cx} {E : XK} {CA : Str → Addr} {a : Expr} {es : List Expr} {mA : AM} {cpos p apos py tpos : Pos} {x y : Str} {k j n : Nat} {rx : ZF} {i : Nat} {Dh : Addr} {nm hx : Str} {np hpos : Pos} {b0 : Stmt} {suite : List Stmt} {mN mS : SM} {ok : Str → Bool}
end
end L3
namespace L3
open PySem PySem.Spec PyProof.Rows L2 PySem.W PySem.Builtin PySem.Builtin.ObjectAttr PySem.Builtin.Getset_descriptor
section
variable {prog : Program} {w : World} {A : Around} {E : Value → Shared → Prop} {h : Heap} {g : Array GenState} {d : Drawn} {t : Nat} {os : OsState} {a : Addr} {o : Obj} {K : PySem.W.Frag} {C : Addr}
end
section
variable {prog : Program} {w : World} {A : Around} {E : Value → Shared → Prop} {h : Heap} {g : Array GenState} {d : Drawn} {t : Nat} {os : OsState} {a : Addr} {o : Obj} {K : PySem.W.Frag} {C : Addr}
end
end L3
namespace L3
open PySem PySem.Spec PyProof.Rows L2 PySem.W
section
variable {X : Cx} {es : List Expr} {Cs : List Addr} {y : Str} {C : Addr} {p : Pos}
end
section
variable {X : Cx} {a : Expr} {ma : EM} {pos p tp p2 : Pos} {es : List Expr} {Cs : List Addr} {x1 : Nat} {tab : List (Str × Bool)} {y : Str} {D0 : Addr}
end
end L3
namespace L3
open PySem PySem.Spec PyProof.Rows L2
section
variable {X : Cx} {o e : Expr} {es : List Expr} {to : TE} {t : TA} {name : Str} {apos cpos : Pos} {T id : String} {r : V → List V → Hp → VK → Prop} {ty : V → Hp → Prop}
end
section
variable {X : Cx} {j : Nat}
end
section
variable {X : Cx} {j : Nat} {o e : Expr} {mo m : EM} {apos cpos : Pos}
variable {a b : Expr} {ma mb : EM} {pos : Pos}
end
end L3
namespace L3
open PySem PySem.Spec PyProof.Rows L2
def keysD : List D → Option (List Key)
  | [] => some []
  | x :: r => (dKey x).bind fun k => (keysD r).bind fun ks => some (k :: ks)
def tKey : D → Option (List Key)
  | .tup xs => keysD xs
  | _ => none
theorem keysD_rd {ρ : List Addr} {H : Hp} : ∀ {xs : List D} {ks : List Key} {vs : List V}, keysD xs = some ks → RDs ρ H xs vs → vs = ks.map kV
  | [], ks, vs, h, r => by cases h; cases r; rfl
  | x :: xs, ks, vs, h, r => by
    cases r with
    | cons r1 r2 =>
      obtain ⟨k, h1, h⟩ := bnd (show (dKey x).bind (fun k => (keysD xs).bind fun ks => some (k :: ks)) = some ks from h)
      obtain ⟨ks', h2, h⟩ := bnd h
      cases h
      rw [keysD_rd h2 r2, key_kV h1 r1]; rfl
theorem tKey_rd {ρ : List Addr} {H : Hp} {d : D} {v : V} {k : List Key} (h : tKey d = some k) (r : RD ρ H d v) : ∃ b, v = .ref b ∧ H b = some (.tup (k.map kV)) := by
  cases r with
  | @tup xs b vs hb rs =>
    have := keysD_rd (show keysD xs = some k from h) rs
    subst this
    exact ⟨b, rfl, hb⟩
  | _ => cases h
def tvGet (kvs : List (List Key × D)) (k : List Key) : Option D := (kvs.find? fun kv => decide (kv.1 = k)).map (·.2)
def tvPut (kvs : List (List Key × D)) (k : List Key) (v : D) : List (List Key × D) := if (kvs.any fun kv => decide (kv.1 = k)) = true then kvs.map (fun kv => if kv.1 = k then (kv.1, v) else kv) else kvs ++ [(k, v)]
section
variable {K : PySem.W.Frag} {ρ : List Addr} {H : Hp} {S : Sto}
theorem tv_get {k : List Key} : ∀ {kvs : List (List Key × D)} {vs : List V}, RDs ρ H (kvs.map (·.2)) vs → (tvGet kvs k = none → valV ((kvs.map (·.1)).zip vs) k = none) ∧ ∀ d, tvGet kvs k = some d → ∃ v, valV ((kvs.map (·.1)).zip vs) k = some v ∧ RD ρ H d v
  | [], vs, r => by
    cases r
    exact ⟨fun _ => rfl, fun d h => by cases h⟩
  | (k', d') :: kvs, vs, r => by
    cases r with
    | @cons _ v _ vs r1 r2 =>
      by_cases e : k' = k
      · have e1 : tvGet ((k', d') :: kvs) k = some d' := by simp [tvGet, e]
        have e2 : valV ((((k', d') :: kvs).map (·.1)).zip (v :: vs)) k = some v := valV_pos (p := (k', v)) e
        rw [e1, e2]
        exact ⟨fun z => (by cases z), fun d h => (by cases h; exact ⟨v, rfl, r1⟩)⟩
      · have e1 : tvGet ((k', d') :: kvs) k = tvGet kvs k := by simp [tvGet, e]
        have e2 : valV ((((k', d') :: kvs).map (·.1)).zip (v :: vs)) k = valV ((kvs.map (·.1)).zip vs) k := valV_neg (p := (k', v)) e
        rw [e1, e2]
        exact tv_get r2
theorem tv_any (k : List Key) : ∀ {kvs : List (List Key × D)} {vs : List V}, RDs ρ H (kvs.map (·.2)) vs → (((kvs.map (·.1)).zip vs).any fun kv => decide (kv.1 = k)) = kvs.any fun kv => decide (kv.1 = k)
  | [], vs, r => by cases r; rfl
  | (k', d') :: kvs, vs, r => by
    cases r with
    | @cons _ v _ vs r1 r2 =>
      show (decide (k' = k) || (((kvs.map (·.1)).zip vs).any fun kv => decide (kv.1 = k))) = (decide (k' = k) || _)
      rw [tv_any k r2]
theorem tv_put {k : List Key} {d : D} {v : V} (rv : RD ρ H d v) {kvs : List (List Key × D)} {vs : List V} (r : RDs ρ H (kvs.map (·.2)) vs) : ∃ ws, putK ((kvs.map (·.1)).zip vs) k v = ((tvPut kvs k d).map (·.1)).zip ws ∧ RDs ρ H ((tvPut kvs k d).map (·.2)) ws := by
  unfold putK tvPut
  rw [tv_any k r]
  by_cases e : (kvs.any fun kv => decide (kv.1 = k)) = true
  · rw [if_pos e, if_pos e]
    clear e
    induction kvs generalizing vs with
    | nil => cases r; exact ⟨[], rfl, .nil⟩
    | cons p kvs ih =>
      obtain ⟨k', d'⟩ := p
      cases r with
      | @cons _ u _ us r1 r2 =>
        obtain ⟨ws, h1, h2⟩ := ih r2
        by_cases e : k' = k
        · refine ⟨v :: ws, ?_, ?_⟩
          · simp only [List.map_cons, List.zip_cons_cons, if_pos e]; rw [← h1]
          · simp only [List.map_cons, if_pos e]; exact .cons rv h2
        · refine ⟨u :: ws, ?_, ?_⟩
          · simp only [List.map_cons, List.zip_cons_cons, if_neg e]; rw [← h1]
          · simp only [List.map_cons, if_neg e]; exact .cons r1 h2
  · rw [if_neg e, if_neg e]
    refine ⟨vs ++ [v], ?_, ?_⟩
    · rw [List.map_append, List.zip_append (by rw [List.length_map]; have := r.length; rw [List.length_map] at this; exact this)]; rfl
    · rw [List.map_append]; exact r.append (.cons rv .nil)
end
def dRd (S : Sto) : D → D → Option (Option D)
  | .ref n, y => match S[n]? with
    | some (.dct kvs) => (dKey y).bind fun k => some (kvGet kvs k)
    | some (.fdct kvs) => (dKey y).bind fun k => some (kvGet kvs k)
    | some (.tdct kvs) => (tKey y).bind fun k => some (tvGet kvs k)
    | some (.ftdct kvs) => (tKey y).bind fun k => some (tvGet kvs k)
    | _ => none
  | _, _ => none
def isDc (S : Sto) : D → Option Unit
  | .ref n => match S[n]? with
    | some (.dct _) => some ()
    | some (.fdct _) => some ()
    | some (.tdct _) => some ()
    | some (.ftdct _) => some ()
    | _ => none
  | _ => none
def Ro1 (ρ : List Addr) (H : Hp) (o : Option D) (o' : Option V) : Prop := (o = none → o' = none) ∧ ∀ d, o = some d → ∃ v, o' = some v ∧ RD ρ H d v
theorem Ro1.isSome {ρ : List Addr} {H : Hp} {o : Option D} {o' : Option V} (r : Ro1 ρ H o o') : o'.isSome = o.isSome := by
  cases o with
  | none => rw [r.1 rfl]; rfl
  | some d => obtain ⟨v, e, _⟩ := r.2 d rfl; rw [e]; rfl
theorem Ro1.getD {ρ : List Addr} {H : Hp} {o : Option D} {o' : Option V} (r : Ro1 ρ H o o') {z : D} {z' : V} (rz : RD ρ H z z') : RD ρ H (o.getD z) (o'.getD z') := by
  cases o with
  | none => rw [r.1 rfl]; exact rz
  | some d => obtain ⟨v, e, q⟩ := r.2 d rfl; rw [e]; exact q
theorem Sim.isDc {K : PySem.W.Frag} {ρ : List Addr} {H : Hp} {S : Sto} {x : D} {x' : V} (s : Sim K ρ S H) (rx : RD ρ H x x') (h : L3.isDc S x = some ()) : ∃ a, x' = .ref a ∧ IsD H a := by
  unfold L3.isDc at h
  split at h
  · cases rx with
    | @ref n a hn =>
      refine ⟨a, rfl, ?_⟩
      split at h
      · rename_i e; obtain ⟨vs, hH, _⟩ := s.at' _ a _ hn e; exact .inl ⟨_, .inl hH⟩
      · rename_i e; obtain ⟨o, vs, hH, _⟩ := s.at' _ a _ hn e; exact .inl ⟨_, .inr ⟨o, hH⟩⟩
      · rename_i e; obtain ⟨vs, hH, _⟩ := s.at' _ a _ hn e; exact .inr ⟨_, .inl hH⟩
      · rename_i e; obtain ⟨o, vs, hH, _⟩ := s.at' _ a _ hn e; exact .inr ⟨_, .inr ⟨o, hH⟩⟩
      · cases h
  · cases h
theorem Sim.dRd {K : PySem.W.Frag} {ρ : List Addr} {H : Hp} {S : Sto} {x y : D} {x' y' : V} {o : Option D} (s : Sim K ρ S H) (rx : RD ρ H x x') (ry : RD ρ H y y') (h : L3.dRd S x y = some o) : ∃ a o', x' = .ref a ∧ DGet H a y' o' ∧ Ro1 ρ H o o' := by
  unfold L3.dRd at h
  split at h
  · cases rx with
    | @ref n a hn =>
      split at h
      · rename_i e
        obtain ⟨k, hk, h⟩ := bnd h
        cases h
        obtain ⟨vs, hH, r⟩ := s.at' _ a _ hn e
        have ey := key_kV hk ry
        subst ey
        exact ⟨a, _, rfl, .inl ⟨_, k, .inl hH, rfl, rfl⟩, kv_get r⟩
      · rename_i e
        obtain ⟨k, hk, h⟩ := bnd h
        cases h
        obtain ⟨ob, vs, hH, r⟩ := s.at' _ a _ hn e
        have ey := key_kV hk ry
        subst ey
        exact ⟨a, _, rfl, .inl ⟨_, k, .inr ⟨ob, hH⟩, rfl, rfl⟩, kv_get r⟩
      · rename_i e
        obtain ⟨k, hk, h⟩ := bnd h
        cases h
        obtain ⟨vs, hH, r⟩ := s.at' _ a _ hn e
        obtain ⟨b, rfl, hb⟩ := tKey_rd hk ry
        exact ⟨a, _, rfl, .inr ⟨_, k, b, .inl hH, rfl, hb, rfl⟩, tv_get r⟩
      · rename_i e
        obtain ⟨k, hk, h⟩ := bnd h
        cases h
        obtain ⟨ob, vs, hH, r⟩ := s.at' _ a _ hn e
        obtain ⟨b, rfl, hb⟩ := tKey_rd hk ry
        exact ⟨a, _, rfl, .inr ⟨_, k, b, .inr ⟨ob, hH⟩, rfl, hb, rfl⟩, tv_get r⟩
      · cases h
  · cases h
section
variable {X : Cx} {a b e f o i value : Expr} {ma mb me mf mo mi mv : EM} {pos pos' apos cpos : Pos} {k : Nat}
def eGet1 (o e : EM) : EM := fun l S => (o l S).bind fun p => (isDc p.2 p.1).bind fun _ => (e l p.2).bind fun q => (dRd q.2 p.1 q.1).bind fun r => some (r.getD .non, q.2)
def eGet2 (o e f : EM) : EM := fun l S => (o l S).bind fun p => (isDc p.2 p.1).bind fun _ => (e l p.2).bind fun q => (f l q.2).bind fun t => (dRd t.2 p.1 q.1).bind fun r => some (r.getD t.1, t.2)
theorem p3_get1 (hr : Room k X.A) (ho : PE3 X o mo) (he : PE3 X e me) (m : M1 X o "get" apos e cpos := by exact ⟨rfl, rfl, rfl, rfl⟩) : PE3 X (.Call (.Attribute o "get" apos) [e] [] cpos) (eGet1 mo me) := PE.imp (pe_dget1 (hu_of3 hr) ho he m) fun σ H Q ⟨ρ, l, S, v, S', sim, ro, hq, p⟩ => by
  obtain ⟨⟨x, S1⟩, h1, hq⟩ := bnd hq
  obtain ⟨_, h2, hq⟩ := bnd hq
  obtain ⟨⟨y, S2⟩, h3, hq⟩ := bnd hq
  obtain ⟨r, h4, hq⟩ := bnd hq
  cases hq
  refine ⟨ρ, l, S, x, S1, sim, ro, h1, fun ρ1 H1 x' e1 s1 r1 => ?_⟩
  obtain ⟨a, rfl, da⟩ := s1.isDc r1 h2
  refine ⟨a, rfl, da, ρ1, l, S1, y, _, s1, ro.mono e1, h3, fun ρ2 H2 y' e2 s2 r2 => ?_⟩
  obtain ⟨a', o', ea, g, ro'⟩ := s2.dRd (r1.mono e2) r2 h4
  cases ea
  exact ⟨o', g, p ρ2 H2 _ (e1.trans e2) s2 (ro'.getD .non)⟩
end
def eDictT : EM := fun _ S => some (.ref S.length, S ++ [.tdct []])
section
variable {X : Cx} {pos : Pos}
theorem p3_dictT : PE3 X (.Dict [] [] pos) eDictT := PE.imp pe_dnewT fun σ H Q ⟨ρ, l, S, v, S', sim, ro, hm, p⟩ => by
  cases hm
  intro a ha
  exact p (ρ ++ [a]) _ _ (ext_newG ha) (sim.pushG ha ⟨[], upd_same, .nil⟩) (.ref (by rw [← sim.len]; exact get_self ρ a))
end
theorem plain_dT (kvs : List (List Key × V)) : Plain (.dT kvs) := ⟨fun _ z => (by cases z), fun _ _ z => (by cases z)⟩
def putX : D → D → D → Sto → Option Sto
  | .ref n, y, v, S => match S[n]? with
    | some (.dct kvs) => (dKey y).bind fun k => if kvs.length < sizeLine then some (S.set n (.dct (kvPut kvs k v))) else none
    | some (.tdct kvs) => (tKey y).bind fun k => if kvs.length < sizeLine then some (S.set n (.tdct (tvPut kvs k v))) else none
    | _ => none
  | _, _, _, _ => none
theorem zipT_len {ρ : List Addr} {H : Hp} {kvs : List (List Key × D)} {vs : List V} (r : RDs ρ H (kvs.map (·.2)) vs) : ((kvs.map (·.1)).zip vs).length = kvs.length := by
  rw [List.length_zip, List.length_map]; have := r.length; rw [List.length_map] at this; omega
theorem putX_ok {K : PySem.W.Frag} {ρ : List Addr} {S S' : Sto} {H : Hp} {x y d : D} {x' y' v' : V} (s : Sim K ρ S H) (rx : RD ρ H x x') (ry : RD ρ H y y') (rd : RD ρ H d v') (h : putX x y d S = some S') : ∃ a H', x' = .ref a ∧ DPut H a y' v' H' ∧ Ext ρ H ρ H' ∧ Sim K ρ S' H' := by
  unfold putX at h
  split at h
  · cases rx with
    | @ref n a hn =>
      split at h
      · rename_i kvs e
        obtain ⟨k, hk, h⟩ := bnd h
        obtain ⟨hz, e2⟩ := ite_some h
        cases e2
        obtain ⟨vs, hH, r⟩ := s.at' _ a _ hn e
        have ey := key_kV hk ry
        subst ey
        obtain ⟨ws, hw1, hw2⟩ := kv_put (k := k) rd r
        have ex := ext_updG (o := .dK (putK ((kvs.map (·.1)).zip vs) k v')) hn hH (plain_dK _)
        refine ⟨a, _, rfl, DPut.k hH (by rw [zip_len r]; exact hz), ex, s.setG hn e rfl hH (plain_dK _) ⟨ws, by rw [upd_same, hw1], hw2.mono ex⟩⟩
      · rename_i kvs e
        obtain ⟨k, hk, h⟩ := bnd h
        obtain ⟨hz, e2⟩ := ite_some h
        cases e2
        obtain ⟨vs, hH, r⟩ := s.at' _ a _ hn e
        obtain ⟨b, rfl, hb⟩ := tKey_rd hk ry
        obtain ⟨ws, hw1, hw2⟩ := tv_put (k := k) rd r
        have ex := ext_updG (o := .dT (putK ((kvs.map (·.1)).zip vs) k v')) hn hH (plain_dT _)
        refine ⟨a, _, rfl, DPut.t hH hb (by rw [zipT_len r]; exact hz), ex, s.setG hn e rfl hH (plain_dT _) ⟨ws, by rw [upd_same, hw1], hw2.mono ex⟩⟩
      · cases h
  · cases h
def gPutX (o i : EM) : GM := fun v l S => (o l S).bind fun p => (i l p.2).bind fun q => (putX p.1 q.1 v q.2).bind fun S' => some (l, S')
section
variable {X : Cx} {o i value : Expr} {mo mi mv : EM} {pos pos' : Pos} {k : Nat}
theorem s3_putX (hr : Room k X.A) (ho : PE3 X o mo) (hi : PE3 X i mi) (hv : PE3 X value mv) (hs : swapsWith value (some (.Subscript o i pos')) pos.line X.env = pure false := by rfl) :
    PS3 X (.Assign [.Subscript o i pos'] value pos) (sAsg mv (gPutX mo mi)) := PS.imp (ps_dput (hu_of3 hr) ho hi hv hs) fun E σ H ⟨ρ, l, S, f, l', S', sim, ro, hm, p⟩ => by
  obtain ⟨⟨d, S1⟩, h1, hm⟩ := bnd hm
  obtain ⟨⟨l2, S2⟩, h2, hm⟩ := bnd hm
  obtain ⟨⟨x, S3⟩, h3, h2⟩ := bnd h2
  obtain ⟨⟨y, S4⟩, h4, h2⟩ := bnd h2
  obtain ⟨S5, h5, h2⟩ := bnd h2
  cases h2; cases hm
  refine ⟨ρ, l, S, d, S1, sim, ro, h1, fun ρ1 H1 v' e1 s1 r1 => ⟨ρ1, l, S1, x, S3, s1, ro.mono e1, h3, fun ρ2 H2 x' e2 s2 r2 => ⟨ρ2, l, S3, y, S4, s2, (ro.mono e1).mono e2, h4, fun ρ3 H3 y' e3 s3 r3 => ?_⟩⟩⟩
  obtain ⟨a, H4, rfl, pu, ex, s4⟩ := putX_ok s3 (r2.mono e3) r3 (r1.mono (e2.trans e3)) h5
  exact ⟨a, H4, rfl, pu, p ρ3 _ σ ((e1.trans (e2.trans e3)).trans ex) s4 ((((ro.mono e1).mono e2).mono e3).mono ex)⟩
end
end L3
namespace L3
open PySem PySem.Spec PyProof.Rows L2
def eFnc (x : Str) : EM := fun _ S => some (.ref S.length, S ++ [.fnc x])
section
variable {K : PySem.W.Frag} {ρ : List Addr} {H : Hp} {S : Sto}
theorem Sim.fnc {a : Addr} {x : Str} (s : Sim K ρ S H) (h1 : PySem.W.nsIn K mainGlobals x = some (some (.ref a))) (h2 : ∃ o, K.lookup a = some o) : Sim K (ρ ++ [a]) (S ++ [.fnc x]) H := by
  refine ⟨by simp [s.len], fun i j b x1 x2 g1 g2 g3 g4 m1 m2 => ?_, fun n b o g1 g2 => ?_⟩
  · rcases get_push g3 with g3 | ⟨e3, f3⟩
    · rcases get_push g4 with g4 | ⟨e4, f4⟩
      · have l1 := (List.getElem?_eq_some_iff.mp g3).1
        have l2 := (List.getElem?_eq_some_iff.mp g4).1
        have l := s.len
        rcases get_push g1 with g1 | ⟨q1, _⟩
        · rcases get_push g2 with g2 | ⟨q2, _⟩
          · exact s.nd i j b _ _ g1 g2 g3 g4 m1 m2
          · omega
        · omega
      · subst f4; cases m2
    · subst f3; cases m1
  · rcases get_push g1 with g1 | ⟨e1, f1⟩
    · rcases get_push g2 with g2 | ⟨e2, f2⟩
      · exact (s.at' n b o g1 g2).more ext0_push
      · have := (List.getElem?_eq_some_iff.mp g1).1; have := s.len; omega
    · subst f1
      rcases get_push g2 with g2 | ⟨e2, f2⟩
      · have := (List.getElem?_eq_some_iff.mp g2).1; have := s.len; omega
      · subst f2
        exact ⟨h1, h2⟩
end
section
variable {X : Cx} {x y : Str} {pos p : Pos} {a : Expr} {es : List Expr}
def fncOf (S : Sto) : D → Option Str
  | .ref n => match S[n]? with
    | some (.fnc x) => some x
    | _ => none
  | _ => none
def eCallV (tab : List (Str × FM)) (e : EM) (as : AM) : EM := fun l S => (e l S).bind fun p => (fncOf p.2 p.1).bind fun x => (tab.lookup x).bind fun m => (as l p.2).bind fun q => m q.1 q.2
end
end L3
namespace L3
open PySem PySem.Spec PyProof.Rows L2
section
variable {k : Nat} {names : List (Str × NameKind)} {acc : List (Str × Addr)}
theorem cf_mem : ∀ {names : List (Str × NameKind)} {k : Nat} {acc : List (Str × Addr)} {x : Str} {c : Addr}, (x, c) ∈ cellsFrom k names acc → (x, c) ∈ acc ∨ (k ≤ c ∧ (x, NameKind.cell) ∈ names)
  | [], _, _, _, _, h => .inl h
  | (n, kd) :: r, k, acc, x, c, h => by
    unfold cellsFrom at h
    split at h
    · rename_i hk
      have hk : kd = .cell := by simpa using hk
      subst hk
      rcases cf_mem h with h | ⟨h1, h2⟩
      · rcases List.mem_cons.mp h with e | h
        · cases e; exact .inr ⟨Nat.le_refl _, List.mem_cons_self⟩
        · exact .inl h
      · exact .inr ⟨by omega, List.mem_cons_of_mem _ h2⟩
    · rcases cf_mem h with h | ⟨h1, h2⟩
      · exact .inl h
      · exact .inr ⟨h1, List.mem_cons_of_mem _ h2⟩
theorem cf_inj : ∀ {names : List (Str × NameKind)} {k : Nat} {acc : List (Str × Addr)}, (∀ x y c, (x, c) ∈ acc → (y, c) ∈ acc → x = y) → (∀ x c, (x, c) ∈ acc → c < k) → ∀ x y c, (x, c) ∈ cellsFrom k names acc → (y, c) ∈ cellsFrom k names acc → x = y
  | [], _, _, hi, _, x, y, c, h1, h2 => hi x y c h1 h2
  | (n, kd) :: r, k, acc, hi, hl, x, y, c, h1, h2 => by
    unfold cellsFrom at h1 h2
    split at h1
    · rename_i hk
      rw [if_pos hk] at h2
      refine cf_inj (fun x y c g1 g2 => ?_) (fun x c g => ?_) x y c h1 h2
      · rcases List.mem_cons.mp g1 with e1 | g1 <;> rcases List.mem_cons.mp g2 with e2 | g2
        · cases e1; cases e2; rfl
        · cases e1; exact absurd (hl _ _ g2) (Nat.lt_irrefl _)
        · cases e2; exact absurd (hl _ _ g1) (Nat.lt_irrefl _)
        · exact hi x y c g1 g2
      · rcases List.mem_cons.mp g with e | g
        · cases e; exact Nat.lt_succ_self _
        · exact Nat.lt_succ_of_lt (hl _ _ g)
    · rename_i hk
      rw [if_neg hk] at h2
      exact cf_inj hi hl x y c h1 h2
theorem cf_has : ∀ {names : List (Str × NameKind)} {k : Nat} {acc : List (Str × Addr)} {x : Str}, ((x, NameKind.cell) ∈ names ∨ ∃ c, acc.lookup x = some c) → ∃ c, (cellsFrom k names acc).lookup x = some c
  | [], _, _, x, h => by
    rcases h with h | h
    · cases h
    · exact h
  | (n, kd) :: r, k, acc, x, h => by
    unfold cellsFrom
    split
    · rename_i hk
      have hk : kd = .cell := by simpa using hk
      subst hk
      refine cf_has ?_
      by_cases hx : x = n
      · exact .inr ⟨k, by rw [hx, List.lookup_cons]; simp⟩
      · rcases h with h | ⟨c, h⟩
        · rcases List.mem_cons.mp h with e | h
          · cases e; exact absurd rfl hx
          · exact .inl h
        · refine .inr ⟨c, ?_⟩
          rw [List.lookup_cons]
          have : (x == n) = false := by simpa using hx
          rw [this]; exact h
    · rename_i hk
      refine cf_has ?_
      rcases h with h | h
      · rcases List.mem_cons.mp h with e | h
        · cases e; simp at hk
        · exact .inl h
      · exact .inr h
theorem cf_no : ∀ {names : List (Str × NameKind)} {k : Nat} {acc : List (Str × Addr)} {x : Str}, (x, NameKind.cell) ∉ names → (cellsFrom k names acc).lookup x = acc.lookup x
  | [], _, _, _, _ => rfl
  | (n, kd) :: r, k, acc, x, h => by
    unfold cellsFrom
    split
    · rename_i hk
      have hk : kd = .cell := by simpa using hk
      subst hk
      rw [cf_no fun z => h (List.mem_cons_of_mem _ z), List.lookup_cons]
      have : (x == n) = false := by
        have : x ≠ n := fun e => h (by rw [e]; exact List.mem_cons_self)
        simpa using this
      rw [this]
    · exact cf_no fun z => h (List.mem_cons_of_mem _ z)
theorem cf_ge : ∀ {names : List (Str × NameKind)} {k k0 : Nat} {acc : List (Str × Addr)} {x : Str} {c : Addr}, k0 ≤ k → ((x, NameKind.cell) ∈ names ∨ ∃ c', acc.lookup x = some c' ∧ k0 ≤ c') → (cellsFrom k names acc).lookup x = some c → k0 ≤ c
  | [], k, k0, acc, x, c, _, h, e => by
    have e : acc.lookup x = some c := e
    rcases h with h | ⟨c', h, q⟩
    · cases h
    · rw [h] at e; cases e; exact q
  | (n, kd) :: r, k, k0, acc, x, c, hk0, h, e => by
    unfold cellsFrom at e
    split at e
    · rename_i hk
      have hk : kd = .cell := by simpa using hk
      subst hk
      refine cf_ge (by omega) ?_ e
      by_cases hx : x = n
      · exact .inr ⟨k, by rw [hx, List.lookup_cons]; simp, hk0⟩
      · rcases h with h | ⟨c', h, q⟩
        · rcases List.mem_cons.mp h with e | h
          · cases e; exact absurd rfl hx
          · exact .inl h
        · refine .inr ⟨c', ?_, q⟩
          rw [List.lookup_cons]
          have : (x == n) = false := by simpa using hx
          rw [this]; exact h
    · rename_i hk
      refine cf_ge hk0 ?_ e
      rcases h with h | h
      · rcases List.mem_cons.mp h with e | h
        · cases e; simp at hk
        · exact .inl h
      · exact .inr h
theorem clOf_mem (env : Env) : ∀ (names : List (Str × NameKind)) (cs : List (Str × Addr)), (∀ x c, (x, c) ∈ cs → env.cells.lookup x = some c) → ∀ x c, (x, c) ∈ clOf env names cs → env.cells.lookup x = some c
  | [], cs, h, x, c, q => h x c q
  | (n, k) :: r, cs, h, x, c, q => by
    unfold clOf at q
    split at q
    · split at q
      · rename_i c' e
        refine clOf_mem env r _ (fun y d hy => ?_) x c q
        rcases List.mem_cons.mp hy with z | hy
        · cases z; exact e
        · exact h y d hy
      · exact clOf_mem env r cs h x c q
    · exact clOf_mem env r cs h x c q
theorem pc_cell : ∀ {names : List (Str × NameKind)} {h : Heap} {acc : List (Str × Addr)} {x : Str} {c : Addr}, (x, c) ∈ cellsFrom h.objs.size names acc → (x, c) ∈ acc ∨ (pushCells h names).IsCell c none
  | [], _, _, _, _, q => .inl q
  | (n, kd) :: r, h, acc, x, c, q => by
    unfold cellsFrom at q
    unfold pushCells
    split at q
    · rename_i hk
      rw [if_pos hk]
      have := pc_cell (names := r) (h := h.push { cls := .type "cell", data := .cell none }) (acc := (n, h.objs.size) :: acc) (x := x) (c := c) (by rw [Heap.size_push]; exact q)
      rcases this with z | z
      · rcases List.mem_cons.mp z with e | z
        · cases e
          exact .inr ⟨_, pushCells_keeps r _ _ _ (Heap.get?_push_size _ rfl), rfl⟩
        · exact .inl z
      · exact .inr z
    · rename_i hk
      rw [if_neg hk]
      exact pc_cell q
end
theorem newEnvC {M : Model} {A : Around} {E : Value → Shared → Prop} {s : Shared} {scope : Scope} {globals : Addr} {cl : List (Str × Addr)} {qual : Str} {outer : Env} {Q : Env → Shared → Prop}
    (hQ : ∀ h', h'.Ns s.heap.objs.size (fun _ => none) → (∀ b o, s.heap.get? b = some o → h'.get? b = some o) → (∀ x c, (x, c) ∈ cellsFrom (s.heap.objs.size + 1) scope.names cl → (x, c) ∈ cl ∨ h'.IsCell c none) →
      Q (newEnv scope s.heap.objs.size globals (cellsFrom (s.heap.objs.size + 1) scope.names cl) qual none .none (some outer) builtinsNs) { s with heap := h' }) :
    wpAny M A (newFunctionEnv scope globals cl [] qual none .none (some outer)) Q E s := by
  unfold newFunctionEnv
  refine wpAny_bind (wpAny_alloc ?_)
  refine wpAny_bind (wpAny_layCells _ (fun name kind cells => by cases hkc : kind == NameKind.cell <;> simp [hkc]) _ _ _ _ ?_)
  dsimp only
  rw [List.forIn_nil]
  refine wpAny_bind (wpAny_pure (wpAny_pure ?_))
  have hz : (s.heap.push { cls := .type "dict", data := .dict #[] }).objs.size = s.heap.objs.size + 1 := Heap.size_push ..
  have h1 := hQ (pushCells (s.heap.push { cls := .type "dict", data := .dict #[] }) scope.names) ((Heap.Ns.new s.heap (.type "dict")).keeps (pushCells_keeps _ _)) (fun b o e => pushCells_keeps _ _ b o (Heap.get?_push_of_some _ e)) (fun x c q => pc_cell (by rw [hz]; exact q))
  simp only [Option.isSome_some, if_true, hz]
  exact h1
def cxD (X : Cx) (N' : List Str) (scope : Scope) (C : Addr) (s : Shared) (H : Hp) (fp : List Addr) (pins : List (Addr × Obj)) : Cx where
  prog := X.prog
  w := X.w
  K := X.K
  mg := X.mg
  base := X.base
  A := X.A
  N := N'
  s₀ := s
  H₀ := H
  env := compEnvC scope (cellsFrom (C + 1) scope.names (clOf X.env scope.names [])) C X.env
  outer := X.stack
  stack := X.stack
  ex := fp
  fn := fun x => scope.names.contains (x, NameKind.cell)
  calm := X.calm
  pn := X.pn ++ pins
  xe := fun _ _ => False
structure CompSd (X : Cx) (N' : List Str) (scope : Scope) (src : St → St) : Prop where
  kind : scope.kind = .function
  names : ∀ y ∈ scope.names, y.2 = .local → scope.names.lookup y.1 = some .local
  free : ∀ y ∈ scope.names, y.2 = .free → X.env.kindOf y.1 = some .cell ∨ X.env.kindOf y.1 = some .free
  rel : ∀ y, (relabel scope X.env).names.lookup y = some .cell ∨ (relabel scope X.env).names.lookup y = some .free → (y, NameKind.free) ∈ scope.names ∨ (y, NameKind.cell) ∈ scope.names
  one : ∀ y, scope.names.lookup y = some .free → (y, NameKind.cell) ∉ scope.names
  len : ∀ σ, (src σ).length = N'.length
  src : ∀ σ (i : Nat) v x, (src σ)[i]? = some (some v) → N'[i]? = some x → ∃ j : Nat, X.N[j]? = some x ∧ σ[j]? = some (some v) ∧ scope.names.lookup x = some .free
theorem comp_coreC {X : Cx} {N' : List Str} {elt iter tgt : Expr} {ifs : List Expr} {scope : Scope} {pos pos' : Pos} {use : Option (Value → Sem Unit)} {R : Value → Shared → Prop} {pins : List (Addr × Obj)} {s : Shared} {σ : St} {H : Hp} {Q : VK} {wi : TI} {src : St → St} {g : TG} {tts : TT} {t : TE} (hcalm : X.calm = true) (sc : CompSd X N' scope src)
    (hi : PI X tgt iter wi) (hg : ∀ C s H fp pins, PG (cxD X N' scope C s H fp pins) tgt g) (ht : ∀ C s H fp pins, PTs (cxD X N' scope C s H fp pins) ifs tts) (he : ∀ C s H fp pins, PE (cxD X N' scope C s H fp pins) elt t)
    (hs : ∀ x, foldedSetIterable iter X.env x = pure x) (I : Inv X pins σ H s) (h : tComp X.K wi src g tts t σ H Q)
    (fin : ∀ D H5 s6 C mC, Inv X pins σ H5 s6 → FpOk X pins H5 C → s6.heap.Ns C mC → Q (.ref D) H5 → compPost (model X.prog X.w) X.A X.xe use R (.ref D) C (.ok .next) s6) :
    wpAny (model X.prog X.w) X.A (comprehension (.ListComp elt [⟨tgt, iter, ifs, 0⟩] scope pos) scope X.env pos' (newList []) false (eval iter X.env) use) R X.xe s := by
  have hasC : ∀ x ∈ scope.names, x.2 = .free → ∃ c, X.env.cells.lookup x.1 = some c := fun x hx hf => I.ok.has x.1 (sc.free x hx hf)
  refine wpAny_comprehension_free (use := use) (env := X.env) rfl hs (closureFor_eq scope X.env hasC) sc.kind sc.names ?_
  show wpAny (model X.prog X.w) X.A (eval iter X.env) _ _ s
  refine wpAny_mono (hi pins s σ H _ I h) (fun v s1 h1 => wpAny_mono h1 (fun itv s2 h2 => ?_) fun _ _ z => z) fun _ _ z => z
  obtain ⟨it, fp, tn, J, H2, rfl, I2, T, st2, f2, q⟩ := h2
  refine wpAny_newObj_type ?_ (by show 0 ≤ sizeLine; exact Nat.zero_le _)
  have hD : H2 s2.heap.objs.size = none := I2.hok.fresh (Nat.le_refl _)
  have I3 : Inv X pins σ (upd H2 s2.heap.objs.size (.lst [])) { s2 with heap := s2.heap.push { cls := .type "list", data := .seq ([] : List Value).toArray } } := I2.lnew (t' := s2.toks) .nil (Nat.zero_le _)
  obtain ⟨W, ⟨m0, w0⟩, turn⟩ := q s2.heap.objs.size hD (by
    cases e : X.K.lookup s2.heap.objs.size with
    | none => rfl
    | some o => exact absurd (Heap.lt_size (I2.kIn _ o e)) (Nat.lt_irrefl _))
  refine newEnvC fun h' hns old0 hown0 => ?_
  have fpIn : ∀ b ∈ fp, ∃ o, s2.heap.get? b = some o ∧ ∀ v, o.data ≠ .cell v := T.obj 0 s2.heap st2
  have fpD : ∀ b ∈ fp, b ≠ s2.heap.objs.size := fun b hb => let ⟨o, e, _⟩ := fpIn b hb; Nat.ne_of_lt (Heap.lt_size e)
  have f3 : ∀ b ∈ fp, FpOk X pins (upd H2 s2.heap.objs.size (.lst [])) b := fun b hb => ⟨by rw [upd_ne (fpD b hb)]; exact (f2 b hb).1, (f2 b hb).2⟩
  have st3 : tn 0 (s2.heap.push { cls := .type "list", data := .seq ([] : List Value).toArray }) := T.keep _ _ _ st2 fun b hb o e => Heap.get?_push_of_some _ e
  clear q hD h st2 f2 fpD
  generalize upd H2 s2.heap.objs.size (.lst []) = H3 at *
  generalize hDe : s2.heap.objs.size = D at *
  have fpIn3 : ∀ b ∈ fp, ∃ o, (s2.heap.push { cls := .type "list", data := .seq ([] : List Value).toArray }).get? b = some o ∧ ∀ v, o.data ≠ .cell v := T.obj 0 _ st3
  clear fpIn
  generalize s2.heap.push { cls := .type "list", data := .seq ([] : List Value).toArray } = h3 at *
  have old : ∀ b o, h3.get? b = some o → h'.get? b = some o := old0
  have stkNo : ∀ b, b ≠ X.env.locals → b ∉ X.fs → b ∉ frs X.stack := fun b h1 h2 hb => by
    rcases List.mem_cons.mp (I3.stkSub b hb) with z | z
    · exact h1 z
    · exact h2 z
  have sub := clOf_sub X.env scope.names [] (fun x c z => by simp at z)
  have clLt : ∀ x c, (x, c) ∈ clOf X.env scope.names [] → c < h3.objs.size := fun x c z => by
    obtain ⟨v, o, ho, _⟩ := I3.cell x c (clOf_mem X.env scope.names [] (fun x c z => by simp at z) x c z)
    exact Heap.lt_size ho
  have clInj : ∀ x y c, (x, c) ∈ clOf X.env scope.names [] → (y, c) ∈ clOf X.env scope.names [] → x = y := fun x y c z1 z2 => by
    have e1 := clOf_mem X.env scope.names [] (fun x c z => by simp at z) x c z1
    have e2 := clOf_mem X.env scope.names [] (fun x c z => by simp at z) y c z2
    exact I3.ok.inj x y c e1 e2
  have own : ∀ x c, (cellsFrom (h3.objs.size + 1) scope.names (clOf X.env scope.names [])).lookup x = some c → X.env.cells.lookup x = some c ∨ (h3.objs.size + 1 ≤ c ∧ h'.IsCell c none) := fun x c z => by
    have zm := PySem.mem_of_lookup z
    rcases cf_mem zm with y | ⟨y, _⟩
    · exact .inl (clOf_mem X.env scope.names [] (fun x c z => by simp at z) x c y)
    · rcases hown0 x c zm with q | q
      · exact absurd (clLt x c q) (Nat.not_lt.mpr (Nat.le_of_succ_le y))
      · exact .inr ⟨y, q⟩
  have cNe : ∀ b o, h3.get? b = some o → b ≠ h3.objs.size := fun b o e => Nat.ne_of_lt (Heap.lt_size e)
  have exf : ∀ b ∈ fp, ∀ x c, (cellsFrom (h3.objs.size + 1) scope.names (clOf X.env scope.names [])).lookup x = some c → c ≠ b := fun b hb x c z => by
    rcases own x c z with y | ⟨y, _⟩
    · exact (f3 b hb).2.2.2.2.1 x c y
    · obtain ⟨o, e, _⟩ := fpIn3 b hb
      exact fun z => absurd (Nat.lt_of_lt_of_le (Heap.lt_size e) (Nat.le_of_succ_le y)) (by rw [z]; exact Nat.lt_irrefl _)
  have frC : ∀ x c, (cellsFrom (h3.objs.size + 1) scope.names (clOf X.env scope.names [])).lookup x = some c → H3 c = none := fun x c z => by
    rcases own x c z with y | ⟨y, _⟩
    · exact I3.freeC x c y
    · exact I3.hok.fresh (Nat.le_of_succ_le y)
  have I4 : Inv (cxD X N' scope h3.objs.size { s2 with heap := h3 } H3 fp pins) [] (src σ) H3 { s2 with heap := h', toks := s2.toks } := by
    refine ⟨⟨I3.ok.mod, sc.kind, I3.ok.glob, I3.ok.blt, Nat.le_refl _, fun x y c h1 h2 => cf_inj clInj (fun x c z => Nat.lt_succ_of_lt (clLt x c z)) x y c (PySem.mem_of_lookup h1) (PySem.mem_of_lookup h2), fun x hx => ?_, fun x c z q => Nat.le_of_succ_le (cf_ge (k0 := h3.objs.size + 1) (Nat.le_refl _) (.inl (by have z : scope.names.contains (x, NameKind.cell) = true := z; simpa using z)) q), I3.ok.hd, I3.ok.frames, .inl rfl, fun b hb => ⟨?_, fun x c z => exf b hb x c z⟩, fun b o e => I3.bs b o e, Nat.le_trans I3.ok.bsz I3.sz, fun b o e hb => ?_, fun b hb => stkNo b (f3 b hb).2.1 (f3 b hb).2.2.1, I3.stack, I3.stkFree⟩,
      rfl, I3.bare, Un.kept old, ⟨_, hns, fun i x v h1 h2 h3' => ?_⟩, fun x c z => ?_, I3.hok.fresh (Nat.le_refl _), fun x c z => frC x c z, fun p hp => ?_, I3.hok.kept old, sc.len σ⟩
    · rcases sc.rel x hx with hm | hm
      · exact cf_has (.inr (clOf_has X.env scope.names [] x (.inl hm) (hasC _ hm rfl)))
      · exact cf_has (.inl hm)
    · obtain ⟨o, e, _⟩ := fpIn3 b hb
      exact cNe b o e
    · rcases (f3 b hb).2.2.2.1 with z | z
      · exact I3.ok.noex b o e z
      · have := Heap.lt_size (I3.ok.bs b o e).1
        exact absurd (Nat.lt_of_lt_of_le this z) (Nat.lt_irrefl _)
    · obtain ⟨j, e1, e2, e3⟩ := sc.src σ i v x h2 h1
      obtain ⟨m, hn, hl⟩ := I3.loc
      have hmem := PySem.mem_of_lookup e3
      have hk := sc.free (x, .free) hmem rfl
      have vis : Vis X.env.scope x := by
        rcases hk with k | k
        · exact .inr (.inl k)
        · exact .inr (.inr k)
      obtain ⟨u, r, lk⟩ := hl j x v e1 e2 vis
      refine ⟨u, r, .inr ⟨?_, ?_⟩⟩
      · exact relabel_lookup (scope := scope) e3
      · rcases lk with ⟨k, _⟩ | ⟨_, c, hc, hcell⟩
        · rcases hk with k' | k' <;> (rw [k] at k'; cases k')
        · obtain ⟨c', hc'⟩ := clOf_has X.env scope.names [] x (.inl hmem) ⟨c, hc⟩
          have := sub x c' hc'
          rw [hc] at this; cases this
          have hc' : (cellsFrom (h3.objs.size + 1) scope.names (clOf X.env scope.names [])).lookup x = some c := by rw [cf_no (sc.one x e3)]; exact hc'
          obtain ⟨o, ho, hd⟩ := hcell
          exact ⟨c, hc', o, old _ _ ho, hd⟩
    · rcases own x c z with y | ⟨_, y⟩
      · obtain ⟨v, o, ho, hd⟩ := I3.cell x c y
        exact ⟨v, o, old _ _ ho, hd⟩
      · exact ⟨none, y⟩
    · have hp' : p ∈ X.pn ++ pins := by simpa [cxD] using hp
      obtain ⟨e, n, ne, nf, d⟩ := I3.pin p hp'
      exact ⟨old _ _ e, n, cNe _ _ e, stkNo _ ne nf, d⟩
  have st4 : tn 0 h' := T.keep _ _ _ st3 fun b hb o e => old b o e
  have fr4 : ∀ b ∈ fp, H3 b = none := fun b hb => (f3 b hb).1
  have stat : ∀ {H' : Hp}, (∀ b ∈ fp, H' b = none) → ∀ b ∈ fp, FpOk (cxD X N' scope h3.objs.size { s2 with heap := h3 } H3 fp pins) [] H' b := fun hn b hb => by
    obtain ⟨g0, g1, g2, g3, g4, g5⟩ := f3 b hb
    obtain ⟨o, e, _⟩ := fpIn3 b hb
    exact ⟨hn b hb, cNe b o e, stkNo b g1 g2, .inl hb, fun x c z => exf b hb x c z, fun p hp => g5 p (by simpa [cxD] using hp)⟩
  have loop : codeAny (model X.prog X.w) X.A (.compLoop (.ListComp elt [⟨tgt, iter, ifs, 0⟩] scope pos) 0 (.ref it) (.ref D) (compEnvC scope (cellsFrom (h3.objs.size + 1) scope.names (clOf X.env scope.names [])) h3.objs.size X.env))
      (compPost (model X.prog X.w) X.A X.xe use R (.ref D) h3.objs.size) { s2 with heap := h', toks := s2.toks } := by
    refine compLoopG (fun n s' => ∃ i σ' H', Inv (cxD X N' scope h3.objs.size { s2 with heap := h3 } H3 fp pins) [] σ' H' s' ∧ tn i s'.heap ∧ (∀ b ∈ fp, H' b = none) ∧ W i n σ' H') ?_ m0 ⟨0, src σ, H3, I4, st4, fr4, w0⟩
    rintro n s5 ⟨i, σ5, H5, I5, st5, fr5, w5⟩
    rcases turn i n σ5 H5 w5 with ⟨stop, qn⟩ | ⟨go, N, hN, step⟩
    · refine wpAny_mono (T.done (cxD X N' scope h3.objs.size { s2 with heap := h3 } H3 fp pins) rfl rfl rfl hcalm i [] s5 σ5 H5 (fun _ _ => False) I5 (stat fr5) st5 stop) (fun r s6 hr => ?_) fun _ _ z => z
      obtain ⟨hr, I6⟩ := hr
      subst hr
      obtain ⟨mC, hnC, _⟩ := I6.loc
      have IX : Inv X pins σ H5 s6 := I3.call' (s' := s6) (ch := fp) I6.os I6.base I6.hok I6.bare fun b hb => ⟨(f3 b hb).2.2.2.1, (f3 b hb).2.1, (f3 b hb).2.2.2.2.1, (f3 b hb).2.2.2.2.2⟩
      exact fin D H5 s6 h3.objs.size mC IX (I3.fpOk (Nat.le_refl _) I6.free) hnC qn
    · refine wpAny_mono (T.item (cxD X N' scope h3.objs.size { s2 with heap := h3 } H3 fp pins) rfl rfl rfl hcalm i [] s5 σ5 H5 (fun _ _ => False) I5 (stat fr5) st5 go) (fun r s6 hr => ?_) fun _ _ z => z
      obtain ⟨u, hr, h6⟩ := hr
      subst hr
      refine wpAny_mono h6 (fun _ s7 h7 => ?_) fun _ _ z => z
      obtain ⟨x, H7, I7, r7, y7, st7, fr7⟩ := h7
      have I7' := I7.pinned (stat fr7) (T.obj _ _ st7)
      refine wpAny_mono (hg _ _ _ _ _ _ s7 σ5 H7 x u _ I7' r7 (step x H7 y7)) (fun _ s8 h8 => ?_) fun _ _ z => z
      obtain ⟨σ8, H8, I8, q8⟩ := h8
      have again : ∀ {H9 : Hp} {s9 : Shared}, Inv (cxD X N' scope h3.objs.size { s2 with heap := h3 } H3 fp pins) ([] ++ pinsAt fp s7.heap) σ8 H9 s9 → N σ8 H9 → ∃ m, m < n ∧ ∃ i σ' H', Inv (cxD X N' scope h3.objs.size { s2 with heap := h3 } H3 fp pins) [] σ' H' s9 ∧ tn i s9.heap ∧ (∀ b ∈ fp, H' b = none) ∧ W i m σ' H' := fun {H9 s9} I9 n9 => by
        obtain ⟨m', hm, w9⟩ := hN σ8 H9 n9
        refine ⟨m', hm, i + 1, σ8, H9, I9.unpinned, T.keep _ _ _ st7 fun b hb o e => (I9.pin (b, o) (List.mem_append_right _ (List.mem_append_right _ (mem_pinsAt hb e)))).1, fun b hb => ?_, w9⟩
        obtain ⟨o, e, d⟩ := T.obj _ _ st7 b hb
        exact (I9.pin (b, o) (List.mem_append_right _ (List.mem_append_right _ (mem_pinsAt hb e)))).2.1
      refine wpAny_mono (ht _ _ _ _ _ _ s8 σ8 H8 _ I8 q8) (fun ok s9 h9 => ?_) fun _ _ z => z
      obtain ⟨H9, I9, q9⟩ := h9
      cases ok with
      | false => exact again I9 q9
      | true =>
        refine wpAny_mono (he _ _ _ _ _ _ s9 σ8 H9 _ I9 q9) (fun y s10 h10 => ?_) fun _ _ z => z
        obtain ⟨vy, H10, I10, r10, ys, hys, hz, nx⟩ := h10
        refine wpAny_mono (mt_append (X := cxD X N' scope h3.objs.size { s2 with heap := h3 } H3 fp pins) _ s10 σ8 H10 (.ref D) [vy] (.ref D) [y] (fun _ H' => N σ8 H') I10 rfl (.cons r10 .nil) ⟨D, ys, vy, rfl, rfl, hys, hz, nx⟩) (fun _ s11 h11 => ?_) fun _ _ z => z
        obtain ⟨_, H11, I11, _, n11⟩ := h11
        exact again I11 n11
  exact codeAny_compStart_list loop (T.self _ 0 _ _ _ st4 loop)
theorem ps_compC {X : Cx} {N' : List Str} {elt iter tgt : Expr} {ifs : List Expr} {scope : Scope} {pos spos py : Pos} {wi : TI} {src : St → St} {g : TG} {tts : TT} {t : TE} {i : Nat} {y : Str} (hN : X.N.Nodup) (hi' : X.N[i]? = some y) (hx : Loc X.env.scope y)
    (hsw : swapsWith (.ListComp elt [⟨tgt, iter, ifs, 0⟩] scope pos) (some (.Name y py)) spos.line X.env = pure true) (hf : X.fn y = true ∨ X.env.scope.names.lookup y = some .local)
    (hcalm : X.calm = true) (sc : CompSd X N' scope src)
    (hi : PI X tgt iter wi) (hg : ∀ C s H fp pins, PG (cxD X N' scope C s H fp pins) tgt g) (ht : ∀ C s H fp pins, PTs (cxD X N' scope C s H fp pins) ifs tts) (he : ∀ C s H fp pins, PE (cxD X N' scope C s H fp pins) elt t)
    (hs : ∀ x, foldedSetIterable iter X.env x = pure x := by intro _; rfl) : PS X (.Assign [.Name y py] (.ListComp elt [⟨tgt, iter, ifs, 0⟩] scope pos) spos) (tAsg (tComp X.K wi src g tts t) (gName i)) := by
  intro pins s σ H D I h
  rw [exec_Assign_Name_used _ _ _ _ hsw]
  refine wpAny_bind (wpAny_standAt (wpAny_bind ?_))
  show wpAny _ X.A (do let _ ← comprehension (.ListComp elt [⟨tgt, iter, ifs, 0⟩] scope pos) scope X.env _ (newList []) false (eval iter X.env) (some (assign (.Name y py) X.env))) _ _ s
  refine wpAny_bind (wpAny_mono (comp_coreC (use := some (assign (.Name y py) X.env)) (R := fun _ s' => SP X pins D .next s') hcalm sc hi hg ht he hs I h fun D' H5 s6 C mC IX fp hn q => ?_) (fun _ s' hq => wpAny_pure (wpAny_pure hq)) fun _ _ e => e)
  show wpAny _ X.A (assign (.Name y py) X.env (.ref D')) _ _ s6
  refine wpAny_assign_Name (store_ok2 (v := .ref D') IX hN hi' hx rfl (fun s' I' ha => ?_) hf)
  obtain ⟨a, sb, ha⟩ := ha
  have hCa : C ≠ a := by
    rcases ha with ha | ha
    · rw [ha]; exact fp.2.1
    · exact fun z => fp.2.2.2.2.1 y a ha z.symm
  refine ⟨mC, hn.sameBut sb hCa, fun h'' sb'' => ⟨_, H5, ?_, q⟩⟩
  exact I'.turned (t' := s'.toks) (fun b o hb e => sb''.extBut b o hb e) fp.1 fp.2.1 fp.2.2.2.1 fp.2.2.2.2.1 fp.2.2.2.2.2
theorem s3_setcC (j : Nat) {X : Cx} {N' : List Str} {elt iter tgt : Expr} {ifs : List Expr} {scope : Scope} {pos spos py : Pos} {y : Str} {im : IM} {ixs : List (Option Nat)} {g : GM} {t : TM} {e : EM} (hN : X.N.Nodup) (hcalm : X.calm = true) (sc : CompSd X N' scope (srcL ixs))
    (hi : PI3 X tgt iter im) (hg : ∀ C s H fp pins, PG3 (cxD X N' scope C s H fp pins) tgt g) (ht : ∀ C s H fp pins, PTs (cxD X N' scope C s H fp pins) ifs (tt X.K t)) (he : ∀ C s H fp pins, PE3 (cxD X N' scope C s H fp pins) elt e)
    (hi' : X.N[j]? = some y := by rfl) (hx : Loc X.env.scope y := by first | exact Or.inl rfl | exact Or.inr rfl)
    (hsw : swapsWith (.ListComp elt [⟨tgt, iter, ifs, 0⟩] scope pos) (some (.Name y py)) spos.line X.env = pure true := by with_unfolding_all rfl) (hf : X.fn y = true ∨ X.env.scope.names.lookup y = some .local := by first | exact .inl rfl | exact .inr rfl | assumption)
    (hs : ∀ x, foldedSetIterable iter X.env x = pure x := by intro _; rfl) : PS3 X (.Assign [.Name y py] (.ListComp elt [⟨tgt, iter, ifs, 0⟩] scope pos) spos) (sAsg (eComp im ixs g t e) (gName3 j)) :=
  PS.imp (ps_compC (g := tg X.K g) (tts := tt X.K t) (t := te X.K e) hN hi' hx hsw hf hcalm sc hi hg ht he hs) fun E σ H ⟨ρ, l, S, f, l', S', sim, ro, hm, p⟩ => by
    obtain ⟨⟨x, S1⟩, q1, hm⟩ := bnd hm
    cases hm
    exact comp3 σ H _ ⟨ρ, l, S, x, S1, sim, ro, q1, fun ρ1 H1 x' e1 s1 r1 => p ρ1 H1 _ e1 s1 ((ro.mono e1).set j r1)⟩
def chkD (scO scope : Scope) (NO N' : List Str) (ixs : List (Option Nat)) : Bool :=
  decide (scope.kind = .function) && (scope.names.all fun y => y.2 != .local || scope.names.lookup y.1 == some .local) && (scope.names.all fun y => y.2 != .cell || scope.names.lookup y.1 == some .cell) &&
  (scope.names.all fun y => y.2 != .free || (scO.names.lookup y.1 == some .cell || scO.names.lookup y.1 == some .free)) && (ixs.length == N'.length) &&
  ((List.range ixs.length).all fun i => match ixs[i]? with | some (some j) => (NO[j]? == N'[i]? && (match N'[i]? with | some x => scope.names.lookup x == some .free | none => false)) | _ => true)
theorem compSd_of {X : Cx} {scO scope : Scope} {NO N' : List Str} {ixs : List (Option Nat)} (hX : X.env.scope = scO) (hN : X.N = NO) (h : chkD scO scope NO N' ixs = true) : CompSd X N' scope (srcL ixs) := by
  unfold chkD at h
  simp only [Bool.and_eq_true, decide_eq_true_eq, List.all_eq_true, beq_iff_eq, Bool.or_eq_true, bne_iff_ne, ne_eq] at h
  obtain ⟨⟨⟨⟨⟨h1, h3⟩, h2⟩, h4⟩, h5⟩, h6⟩ := h
  refine ⟨h1, fun y hy hl => ?_, fun y hy hl => ?_, fun y hy => ?_, fun y hy hc => ?_, fun σ => by simp [srcL, h5], fun σ i v x hv hx => ?_⟩
  · rcases h3 y hy with z | z
    · exact absurd hl z
    · exact z
  · show X.env.scope.names.lookup y.1 = _ ∨ X.env.scope.names.lookup y.1 = _
    rw [hX]
    rcases h4 y hy with z | z
    · exact absurd hl z
    · exact z
  · have mem : ∃ k, (k = NameKind.cell ∨ k = NameKind.free) ∧ (y, k) ∈ (relabel scope X.env).names := by
      rcases hy with z | z
      · exact ⟨_, .inl rfl, PySem.mem_of_lookup z⟩
      · exact ⟨_, .inr rfl, PySem.mem_of_lookup z⟩
    obtain ⟨k, hk, hm⟩ := mem
    unfold relabel at hm
    obtain ⟨⟨n, k'⟩, hm1, hm2⟩ := List.mem_map.mp hm
    dsimp only at hm2
    split at hm2
    · rename_i hc
      have : k' = .free := by
        rw [Bool.and_eq_true, Bool.and_eq_true] at hc
        exact eq_of_beq hc.1.1
      cases hm2
      rw [← this]; exact .inl hm1
    · cases hm2
      rcases hk with z | z
      · rw [← z]; exact .inr hm1
      · rw [← z]; exact .inl hm1
  · rcases h2 (y, .cell) hc with z | z
    · exact z rfl
    · rw [hy] at z; cases z
  · have hl : i < ixs.length := by
      have := (List.getElem?_eq_some_iff.mp hv).1
      simpa [srcL] using this
    unfold srcL at hv
    rw [List.getElem?_map] at hv
    have q := h6 i (List.mem_range.mpr hl)
    cases e : ixs[i]? with
    | none => rw [e] at hv; cases hv
    | some o =>
      rw [e] at hv
      cases o with
      | none => cases hv
      | some j =>
        rw [e] at q
        dsimp only at q
        rw [hx] at q
        simp only [Bool.and_eq_true, beq_iff_eq] at q
        have hv : ((σ[j]?).join : Option V) = some v := Option.some.inj hv
        refine ⟨j, by rw [hN]; exact q.1, ?_, q.2⟩
        cases e2 : σ[j]? with
        | none => rw [e2] at hv; cases hv
        | some o2 => rw [e2] at hv; have hv : o2 = some v := hv; rw [hv]
theorem compSc_ofD {X : Cx} {scO scope1 scope2 : Scope} {N1 N' : List Str} {ixs : List (Option Nat)} {C : Addr} {s : Shared} {H : Hp} {fp : List Addr} {pins : List (Addr × Obj)} (hX : X.env.scope = scO) (h : chk (relS scope1 scO) scope2 N1 N' ixs = true) : CompSc (cxD X N1 scope1 C s H fp pins) N' scope2 (srcL ixs) :=
  compSc_of (scO := relS scope1 scO) (NO := N1) (by rw [← hX]; exact relS_eq scope1 X.env) rfl h
end L3
namespace L3
open PySem PySem.Spec PyProof.Rows L2
def tCompT (K : PySem.W.Frag) (wi : TI) (src : St → St) (g : TG) (tts : TT) (tk tv : TE) : TE := fun σ H Q => wi σ H fun J H1 => ∀ D, H1 D = none → K.lookup D = none → ∃ W : Nat → Nat → St → Hp → Prop,
  (∃ m, W 0 m (src σ) (upd H1 D (.dT []))) ∧ ∀ i m σ' H', W i m σ' H' →
    (J.stop i H' ∧ Q (.ref D) H') ∨ (J.go i H' ∧ ∃ N : St → Hp → Prop, (∀ σ' H', N σ' H' → ∃ m', m' < m ∧ W (i + 1) m' σ' H') ∧
      ∀ x H'', J.yld i H' x H'' → g x σ' H'' fun σ2 H2 => tts σ2 H2 fun b H3 => if b = true then tk σ2 H3 (fun kx H4 => tv σ2 H4 fun vx H5 => ∃ kvs k b, H5 D = some (.dT kvs) ∧ kx = .ref b ∧ H5 b = some (.tup (k.map kV)) ∧ kvs.length < sizeLine ∧ N σ2 (upd H5 D (.dT (putK kvs k vx)))) else N σ2 H3)
theorem comp_coreT {X : Cx} {rk : Nat} {N' : List Str} {elt vx iter tgt : Expr} {ifs : List Expr} {scope : Scope} {pos pos' : Pos} {use : Option (Value → Sem Unit)} {R : Value → Shared → Prop} {pins : List (Addr × Obj)} {s : Shared} {σ : St} {H : Hp} {Q : VK} {wi : TI} {src : St → St} {g : TG} {tts : TT} {t tv : TE} (hr : Room rk X.A) (hcalm : X.calm = true) (sc : CompSc X N' scope src)
    (hi : PI X tgt iter wi) (hg : ∀ C s H fp pins, PG (cxC X N' scope C s H fp pins) tgt g) (ht : ∀ C s H fp pins, PTs (cxC X N' scope C s H fp pins) ifs tts) (he : ∀ C s H fp pins, PE (cxC X N' scope C s H fp pins) elt t) (hv : ∀ C s H fp pins, PE (cxC X N' scope C s H fp pins) vx tv)
    (hs : ∀ x, foldedSetIterable iter X.env x = pure x) (I : Inv X pins σ H s) (h : tCompT X.K wi src g tts t tv σ H Q)
    (fin : ∀ D H5 s6 C mC, Inv X pins σ H5 s6 → FpOk X pins H5 C → s6.heap.Ns C mC → Q (.ref D) H5 → compPost (model X.prog X.w) X.A X.xe use R (.ref D) C (.ok .next) s6) :
    wpAny (model X.prog X.w) X.A (comprehension (.DictComp elt vx [⟨tgt, iter, ifs, 0⟩] scope pos) scope X.env pos' newDict false (eval iter X.env) use) R X.xe s := by
  have hasC : ∀ x ∈ scope.names, x.2 = .free → ∃ c, X.env.cells.lookup x.1 = some c := fun x hx hf => I.ok.has x.1 (sc.free x hx hf)
  refine wpAny_comprehension_free (use := use) (env := X.env) rfl hs (closureFor_eq scope X.env hasC) sc.kind sc.names ?_
  show wpAny (model X.prog X.w) X.A (eval iter X.env) _ _ s
  refine wpAny_mono (hi pins s σ H _ I h) (fun v s1 h1 => wpAny_mono h1 (fun itv s2 h2 => ?_) fun _ _ z => z) fun _ _ z => z
  obtain ⟨it, fp, tn, J, H2, rfl, I2, T, st2, f2, q⟩ := h2
  refine wpAny_newObj_type ?_
  have hD : H2 s2.heap.objs.size = none := I2.hok.fresh (Nat.le_refl _)
  have I3 : Inv X pins σ (upd H2 s2.heap.objs.size (.dT [])) { s2 with heap := s2.heap.push { cls := .type "dict", data := .dict #[] } } := I2.laid (t' := s2.toks) (fun b u e => Heap.get?_push_of_some _ e) (Nat.le_refl _) (dt_empty s2.heap I2.big)
  obtain ⟨W, ⟨m0, w0⟩, turn⟩ := q s2.heap.objs.size hD (by
    cases e : X.K.lookup s2.heap.objs.size with
    | none => rfl
    | some o => exact absurd (Heap.lt_size (I2.kIn _ o e)) (Nat.lt_irrefl _))
  refine wpAny_newFunctionEnv sc.nocell (by intro y hy; simp at hy) (fun h' hns hsb => ?_) sc.kind
  have fpIn : ∀ b ∈ fp, ∃ o, s2.heap.get? b = some o ∧ ∀ v, o.data ≠ .cell v := T.obj 0 s2.heap st2
  have fpD : ∀ b ∈ fp, b ≠ s2.heap.objs.size := fun b hb => let ⟨o, e, _⟩ := fpIn b hb; Nat.ne_of_lt (Heap.lt_size e)
  have f3 : ∀ b ∈ fp, FpOk X pins (upd H2 s2.heap.objs.size (.dT [])) b := fun b hb => ⟨by rw [upd_ne (fpD b hb)]; exact (f2 b hb).1, (f2 b hb).2⟩
  have st3 : tn 0 (s2.heap.push { cls := .type "dict", data := .dict #[] }) := T.keep _ _ _ st2 fun b hb o e => Heap.get?_push_of_some _ e
  clear q hD h st2 f2 fpD
  generalize upd H2 s2.heap.objs.size (.dT []) = H3 at *
  generalize hDe : s2.heap.objs.size = D at *
  have fpIn3 : ∀ b ∈ fp, ∃ o, (s2.heap.push { cls := .type "dict", data := .dict #[] }).get? b = some o ∧ ∀ v, o.data ≠ .cell v := T.obj 0 _ st3
  clear fpIn
  generalize s2.heap.push { cls := .type "dict", data := .dict #[] } = h3 at *
  have old : ∀ b o, h3.get? b = some o → h'.get? b = some o := fun b o e => hsb.extBut b o (Nat.ne_of_lt (Heap.lt_size e)) (Heap.get?_push_of_some _ e)
  have stkNo : ∀ b, b ≠ X.env.locals → b ∉ X.fs → b ∉ frs X.stack := fun b h1 h2 hb => by
    rcases List.mem_cons.mp (I3.stkSub b hb) with z | z
    · exact h1 z
    · exact h2 z
  have sub := clOf_sub X.env scope.names [] (fun x c z => by simp at z)
  have cNe : ∀ b o, h3.get? b = some o → b ≠ h3.objs.size := fun b o e => Nat.ne_of_lt (Heap.lt_size e)
  have I4 : Inv (cxC X N' scope h3.objs.size { s2 with heap := h3 } H3 fp pins) [] (src σ) H3 { s2 with heap := h', toks := s2.toks + ([] : List (Str × Value)).length } := by
    refine ⟨⟨I3.ok.mod, sc.kind, I3.ok.glob, I3.ok.blt, Nat.le_refl _, fun x y c h1 h2 => I3.ok.inj x y c (sub x c h1) (sub y c h2), fun x hx => ?_, fun x c z => absurd (show false = true from z) Bool.false_ne_true, I3.ok.hd, I3.ok.frames, .inl rfl, fun b hb => ⟨?_, fun x c z => (f3 b hb).2.2.2.2.1 x c (sub x c z)⟩, fun b o e => I3.bs b o e, Nat.le_trans I3.ok.bsz I3.sz, fun b o e hb => ?_, fun b hb => stkNo b (f3 b hb).2.1 (f3 b hb).2.2.1, I3.stack, I3.stkFree⟩,
      rfl, I3.bare, Un.kept old, ⟨_, hns, fun i x v h1 h2 h3' => ?_⟩, fun x c z => ?_, I3.hok.fresh (Nat.le_refl _), fun x c z => I3.freeC x c (sub x c z), fun p hp => ?_, I3.hok.kept old, sc.len σ⟩
    · have hm := sc.rel x hx
      exact clOf_has X.env scope.names [] x (.inl hm) (hasC _ hm rfl)
    · obtain ⟨o, e, _⟩ := fpIn3 b hb
      exact cNe b o e
    · rcases (f3 b hb).2.2.2.1 with z | z
      · exact I3.ok.noex b o e z
      · have := Heap.lt_size (I3.ok.bs b o e).1
        exact absurd (Nat.lt_of_lt_of_le this z) (Nat.lt_irrefl _)
    · obtain ⟨j, e1, e2, e3⟩ := sc.src σ i v x h2 h1
      obtain ⟨m, hn, hl⟩ := I3.loc
      have hmem := PySem.mem_of_lookup e3
      have hk := sc.free (x, .free) hmem rfl
      have vis : Vis X.env.scope x := by
        rcases hk with k | k
        · exact .inr (.inl k)
        · exact .inr (.inr k)
      obtain ⟨u, r, lk⟩ := hl j x v e1 e2 vis
      refine ⟨u, r, .inr ⟨?_, ?_⟩⟩
      · exact relabel_lookup (scope := scope) e3
      · rcases lk with ⟨k, _⟩ | ⟨_, c, hc, hcell⟩
        · rcases hk with k' | k' <;> (rw [k] at k'; cases k')
        · obtain ⟨c', hc'⟩ := clOf_has X.env scope.names [] x (.inl hmem) ⟨c, hc⟩
          have := sub x c' hc'
          rw [hc] at this; cases this
          obtain ⟨o, ho, hd⟩ := hcell
          exact ⟨c, hc', o, old _ _ ho, hd⟩
    · obtain ⟨v, o, ho, hd⟩ := I3.cell x c (sub x c z)
      exact ⟨v, o, old _ _ ho, hd⟩
    · have hp' : p ∈ X.pn ++ pins := by simpa [cxC] using hp
      obtain ⟨e, n, ne, nf, d⟩ := I3.pin p hp'
      exact ⟨old _ _ e, n, cNe _ _ e, stkNo _ ne nf, d⟩
  have st4 : tn 0 h' := T.keep _ _ _ st3 fun b hb o e => old b o e
  have fr4 : ∀ b ∈ fp, H3 b = none := fun b hb => (f3 b hb).1
  have stat : ∀ {H' : Hp}, (∀ b ∈ fp, H' b = none) → ∀ b ∈ fp, FpOk (cxC X N' scope h3.objs.size { s2 with heap := h3 } H3 fp pins) [] H' b := fun hn b hb => by
    obtain ⟨g0, g1, g2, g3, g4, g5⟩ := f3 b hb
    obtain ⟨o, e, _⟩ := fpIn3 b hb
    exact ⟨hn b hb, cNe b o e, stkNo b g1 g2, .inl hb, fun x c z => g4 x c (sub x c z), fun p hp => g5 p (by simpa [cxC] using hp)⟩
  have loop : codeAny (model X.prog X.w) X.A (.compLoop (.DictComp elt vx [⟨tgt, iter, ifs, 0⟩] scope pos) 0 (.ref it) (.ref D) (compEnvC scope (clOf X.env scope.names []) h3.objs.size X.env))
      (compPost (model X.prog X.w) X.A X.xe use R (.ref D) h3.objs.size) { s2 with heap := h', toks := s2.toks + ([] : List (Str × Value)).length } := by
    refine compLoopD (fun n s' => ∃ i σ' H', Inv (cxC X N' scope h3.objs.size { s2 with heap := h3 } H3 fp pins) [] σ' H' s' ∧ tn i s'.heap ∧ (∀ b ∈ fp, H' b = none) ∧ W i n σ' H') ?_ m0 ⟨0, src σ, H3, I4, st4, fr4, w0⟩
    rintro n s5 ⟨i, σ5, H5, I5, st5, fr5, w5⟩
    rcases turn i n σ5 H5 w5 with ⟨stop, qn⟩ | ⟨go, N, hN, step⟩
    · refine wpAny_mono (T.done (cxC X N' scope h3.objs.size { s2 with heap := h3 } H3 fp pins) rfl rfl rfl hcalm i [] s5 σ5 H5 (fun _ _ => False) I5 (stat fr5) st5 stop) (fun r s6 hr => ?_) fun _ _ z => z
      obtain ⟨hr, I6⟩ := hr
      subst hr
      obtain ⟨mC, hnC, _⟩ := I6.loc
      have IX : Inv X pins σ H5 s6 := I3.call' (s' := s6) (ch := fp) I6.os I6.base I6.hok I6.bare fun b hb => ⟨(f3 b hb).2.2.2.1, (f3 b hb).2.1, (f3 b hb).2.2.2.2.1, (f3 b hb).2.2.2.2.2⟩
      exact fin D H5 s6 h3.objs.size mC IX (I3.fpOk (Nat.le_refl _) I6.free) hnC qn
    · refine wpAny_mono (T.item (cxC X N' scope h3.objs.size { s2 with heap := h3 } H3 fp pins) rfl rfl rfl hcalm i [] s5 σ5 H5 (fun _ _ => False) I5 (stat fr5) st5 go) (fun r s6 hr => ?_) fun _ _ z => z
      obtain ⟨u, hr, h6⟩ := hr
      subst hr
      refine wpAny_mono h6 (fun _ s7 h7 => ?_) fun _ _ z => z
      obtain ⟨x, H7, I7, r7, y7, st7, fr7⟩ := h7
      have I7' := I7.pinned (stat fr7) (T.obj _ _ st7)
      refine wpAny_mono (hg _ _ _ _ _ _ s7 σ5 H7 x u _ I7' r7 (step x H7 y7)) (fun _ s8 h8 => ?_) fun _ _ z => z
      obtain ⟨σ8, H8, I8, q8⟩ := h8
      have again : ∀ {H9 : Hp} {s9 : Shared}, Inv (cxC X N' scope h3.objs.size { s2 with heap := h3 } H3 fp pins) ([] ++ pinsAt fp s7.heap) σ8 H9 s9 → N σ8 H9 → ∃ m, m < n ∧ ∃ i σ' H', Inv (cxC X N' scope h3.objs.size { s2 with heap := h3 } H3 fp pins) [] σ' H' s9 ∧ tn i s9.heap ∧ (∀ b ∈ fp, H' b = none) ∧ W i m σ' H' := fun {H9 s9} I9 n9 => by
        obtain ⟨m', hm, w9⟩ := hN σ8 H9 n9
        refine ⟨m', hm, i + 1, σ8, H9, I9.unpinned, T.keep _ _ _ st7 fun b hb o e => (I9.pin (b, o) (List.mem_append_right _ (List.mem_append_right _ (mem_pinsAt hb e)))).1, fun b hb => ?_, w9⟩
        obtain ⟨o, e, d⟩ := T.obj _ _ st7 b hb
        exact (I9.pin (b, o) (List.mem_append_right _ (List.mem_append_right _ (mem_pinsAt hb e)))).2.1
      refine wpAny_mono (ht _ _ _ _ _ _ s8 σ8 H8 _ I8 q8) (fun ok s9 h9 => ?_) fun _ _ z => z
      obtain ⟨H9, I9, q9⟩ := h9
      cases ok with
      | false => exact again I9 q9
      | true =>
        refine wpAny_mono (he _ _ _ _ _ _ s9 σ8 H9 _ I9 q9) (fun y s10 h10 => ?_) fun _ _ z => z
        obtain ⟨vy, H10, I10, r10, q10⟩ := h10
        refine wpAny_mono (hv _ _ _ _ _ _ s10 σ8 H10 _ I10 q10) (fun z s11 h11 => ?_) fun _ _ z => z
        obtain ⟨vz, H11, I11, r11, kvs, kk, kb, hys, ek, hkb, hz, nx⟩ := h11
        subst ek
        cases r10
        obtain ⟨z1, hsm, xs, rel, dd⟩ := dt_of I11.hok hys
        have hzv : xs.length ≤ sizeLine := by rw [← Paired.length rel]; exact z1
        have hl : (putK kvs kk vz).length ≤ sizeLine := by have := length_putK kvs kk vz; omega
        have hroom : (tupleKind (mixKind X.prog X.w)).room X.A := Nat.lt_of_succ_lt (hu_of3 hr)
        refine wpAny_dictSet_heap (hsz := hzv) hroom (key_of I11.hok hkb) dd fun h' dd' hs' => ?_
        obtain ⟨q, es, ep, hq, g2, g3, g4, _, g5⟩ := dd'
        refine again (d_write (ob := .dT (putK kvs kk vz)) (t' := s11.toks + (tupleKind (mixKind X.prog X.w)).draws kk) I11 (by rw [hys]; exact True.intro) hs' ⟨q, hq⟩ ⟨hl, hsm, _, (rel.put kk hkb r11).keeps fun c ys ec => ?_, q, es, ep, hq, g2, g3, g4, g5⟩) nx
        rw [upd_ne (ne_of ec hys (fun z => nomatch z))]
        exact ec
  exact codeAny_compStart_dict loop (T.self _ 0 _ _ _ st4 loop)
theorem pe_compT {X : Cx} {rk : Nat} {N' : List Str} {elt vx iter tgt : Expr} {ifs : List Expr} {scope : Scope} {pos : Pos} {wi : TI} {src : St → St} {g : TG} {tts : TT} {t tv : TE} (hr : Room rk X.A) (hcalm : X.calm = true) (sc : CompSc X N' scope src)
    (hi : PI X tgt iter wi) (hg : ∀ C s H fp pins, PG (cxC X N' scope C s H fp pins) tgt g) (ht : ∀ C s H fp pins, PTs (cxC X N' scope C s H fp pins) ifs tts) (he : ∀ C s H fp pins, PE (cxC X N' scope C s H fp pins) elt t) (hv : ∀ C s H fp pins, PE (cxC X N' scope C s H fp pins) vx tv)
    (hs : ∀ x, foldedSetIterable iter X.env x = pure x := by intro _; rfl) : PE X (.DictComp elt vx [⟨tgt, iter, ifs, 0⟩] scope pos) (tCompT X.K wi src g tts t tv) := by
  intro pins s σ H Q I h
  rw [arm_eval_DictComp]
  refine comp_coreT (use := none) hr hcalm sc hi hg ht he hv hs I h fun D H5 s6 C mC IX fp hn q => ⟨mC, hn, fun h'' sb => ⟨.ref D, H5, ?_, rfl, q⟩⟩
  exact IX.turned (t' := s6.toks) (fun b o hb e => sb.extBut b o hb e) fp.1 fp.2.1 fp.2.2.2.1 fp.2.2.2.2.1 fp.2.2.2.2.2
def tFold : List D → List (List Key × D) → Option (List (List Key × D))
  | [], acc => some acc
  | .tup [k, v] :: r, acc => (tKey k).bind fun kk => tFold r (tvPut acc kk v)
  | _, _ => none
def eTComp (im : IM) (ixs : List (Option Nat)) (g : GM) (t : TM) (k v : EM) : EM := fun l S => (im l S).bind fun p => (compG p.1 g t (ePair k v) p.2.1 0 (srcL ixs l) p.2.2).bind fun z =>
  if z.1.length ≤ sizeLine then (tFold z.1 []).bind fun kvs => some (.ref z.2.length, z.2 ++ [.tdct kvs]) else none
theorem tvPut_len (kvs : List (List Key × D)) (k : List Key) (v : D) : (tvPut kvs k v).length ≤ kvs.length + 1 := by
  unfold tvPut
  split
  · rw [List.length_map]; omega
  · simp
theorem comp3T {K : PySem.W.Frag} {im : IM} {ixs : List (Option Nat)} {g : GM} {t : TM} {ek ev : EM} (σ : St) (H : Hp) (Q : VK) (q : te K (eTComp im ixs g t ek ev) σ H Q) : tCompT K (tiL K im) (srcL ixs) (tg K g) (tt K t) (te K ek) (te K ev) σ H Q := by
  obtain ⟨ρ, l, S, v, S', sim, ro, hm, p⟩ := q
  obtain ⟨⟨it, k, S1⟩, q1, hm⟩ := bnd hm
  obtain ⟨⟨all, S2⟩, q2, hm⟩ := bnd hm
  obtain ⟨hz, hm⟩ := ite_get hm
  obtain ⟨fin, hf, he⟩ := bnd hm
  cases he
  refine ⟨ρ, l, S, it, k, S1, sim, ro, q1, fun ρ1 H1 J e1 s1 io D hD hK => ?_⟩
  dsimp only at q2 hz p hf
  refine ⟨fun i m σ' H' => ∃ ρ' l' S' acc vs rest, Ext ρ1 H1 ρ' H' ∧ Sim K ρ' S' H' ∧ RO ρ' H' l' σ' ∧ H' D = some (.dT ((acc.map (·.1)).zip vs)) ∧ (∀ n : Nat, ρ'[n]? ≠ some D) ∧ RDs ρ' H' (acc.map (·.2)) vs ∧ compG it g t (ePair ek ev) m i l' S' = some (rest, S2) ∧ tFold rest acc = some fin ∧ acc.length + rest.length ≤ sizeLine, ⟨k, ?_⟩, ?_⟩
  · exact ⟨ρ1, srcL ixs l, S1, [], [], all, ext_new hD, s1.laid hD, (srcL_ro ixs (ro.mono e1)).mono (ext_new hD), upd_same, s1.notin hD hK, .nil, q2, hf, by simpa using hz⟩
  · rintro i m σ' H' ⟨ρ', l', S', acc, vs, rest, e2, s2, ro2, hD2, hn2, rd2, hc, hfold, hlen⟩
    cases m with
    | zero => cases hc
    | succ m =>
      unfold compG at hc
      obtain ⟨o, ho, hc⟩ := bnd hc
      obtain ⟨iStop, iGo⟩ := io i ρ' S' H' e2 s2
      cases o with
      | none =>
        cases hc
        cases hfold
        refine .inl ⟨iStop ho, p (ρ' ++ [D]) H' (.ref D) (e1.trans (e2.adopt hD)) (s2.adoptG ⟨vs, hD2, rd2⟩ hn2) (.ref ?_)⟩
        rw [← s2.len]; exact get_self ρ' D
      | some x =>
        obtain ⟨⟨l3, S3⟩, q3, hc⟩ := bnd hc
        obtain ⟨⟨b, S4⟩, q4, hc⟩ := bnd hc
        obtain ⟨hgo, hy⟩ := iGo x ho
        refine .inr ⟨hgo, _, fun σ' H' h => h, fun y H'' hyl => ?_⟩
        obtain ⟨ex, sx, ry⟩ := hy y H'' hyl
        refine ⟨ρ', l', S', x, l3, S3, sx, ro2.mono ex, ry, q3, fun ρ3 H3 σ3 e3' s3 ro3 => ⟨ρ3, l3, S3, b, S4, s3, ro3, q4, fun ρ4 H4 e4 s4 => ?_⟩⟩
        have e3 := ex.trans e3'
        obtain ⟨hD3, hn3⟩ := e3.out D _ hD2 hn2
        obtain ⟨hD4, hn4⟩ := e4.out D _ hD3 hn3
        cases b with
        | false => exact iteF ⟨m, Nat.lt_succ_self m, ρ4, l3, S4, acc, vs, rest, e2.trans (e3.trans e4), s4, ro3.mono e4, hD4, hn4, rd2.mono (e3.trans e4), hc, hfold, hlen⟩
        | true =>
          have hc : ((ePair ek ev l3 S4).bind fun r => (compG it g t (ePair ek ev) m (i + 1) l3 r.2).bind fun z => some (r.1 :: z.1, z.2)) = some (rest, S2) := hc
          obtain ⟨⟨y5, S5⟩, q5, hc⟩ := bnd hc
          obtain ⟨⟨rest', S6⟩, q6, hc⟩ := bnd hc
          cases hc
          obtain ⟨⟨yk, S7⟩, q7, q5⟩ := bnd q5
          obtain ⟨⟨yv, S8⟩, q8, q5⟩ := bnd q5
          cases q5
          obtain ⟨kk, hkk, hfold⟩ := bnd (show (tKey yk).bind (fun kk => tFold rest' (tvPut acc kk yv)) = some fin from hfold)
          refine iteT ⟨ρ4, l3, S4, yk, S7, s4, ro3.mono e4, q7, fun ρ5 H5 v5 e5 s5 r5 => ⟨ρ5, l3, S7, yv, S8, s5, (ro3.mono e4).mono e5, q8, fun ρ6 H6 v6 e6 s6 r6 => ?_⟩⟩
          obtain ⟨hD5, hn5⟩ := e5.out D _ hD4 hn4
          obtain ⟨hD6, hn6⟩ := e6.out D _ hD5 hn5
          have e26 := e2.trans (e3.trans (e4.trans (e5.trans e6)))
          have rd6 := rd2.mono (e3.trans (e4.trans (e5.trans e6)))
          obtain ⟨kb, ek, hkb⟩ := tKey_rd hkk r5
          have hkb6 := e6.tup _ _ hkb
          obtain ⟨ws, hw1, hw2⟩ := tv_put (k := kk) r6 rd6
          have hl : acc.length + rest'.length + 1 ≤ sizeLine := by simpa [Nat.add_assoc] using hlen
          have hpl := tvPut_len acc kk yv
          refine ⟨_, kk, kb, hD6, ek, hkb6, by rw [zipT_len rd6]; omega, m, Nat.lt_succ_self m, ρ6, l3, S8, tvPut acc kk yv, ws, rest', e26.besideG hD hD6 (plain_dT _), s6.besideG hD6 (plain_dT _) hn6, ?_, by rw [upd_same, hw1], hn6, hw2.mono0 (ext0_updG hD6 (plain_dT _)), q6, hfold, by omega⟩
          have r0 := ((ro3.mono e4).mono e5).mono e6
          exact ⟨r0.len, fun i d h => let ⟨w, h1, h2⟩ := r0.get i d h; ⟨w, h1, h2.mono0 (ext0_updG hD6 (plain_dT _))⟩⟩
theorem p3_compT {X : Cx} {rk : Nat} {N' : List Str} {elt vx iter tgt : Expr} {ifs : List Expr} {scope : Scope} {pos : Pos} {im : IM} {ixs : List (Option Nat)} {g : GM} {t : TM} {e ev : EM} (hr : Room rk X.A) (hcalm : X.calm = true) (sc : CompSc X N' scope (srcL ixs))
    (hi : PIL3 X tgt iter im) (hg : ∀ C s H fp pins, PG3 (cxC X N' scope C s H fp pins) tgt g) (ht : ∀ C s H fp pins, PTs (cxC X N' scope C s H fp pins) ifs (tt X.K t)) (he : ∀ C s H fp pins, PE3 (cxC X N' scope C s H fp pins) elt e) (hv : ∀ C s H fp pins, PE3 (cxC X N' scope C s H fp pins) vx ev)
    (hs : ∀ x, foldedSetIterable iter X.env x = pure x := by intro _; rfl) : PE3 X (.DictComp elt vx [⟨tgt, iter, ifs, 0⟩] scope pos) (eTComp im ixs g t e ev) :=
  PE.imp (pe_compT (g := tg X.K g) (tts := tt X.K t) (t := te X.K e) (tv := te X.K ev) hr hcalm sc hi hg ht he hv hs) comp3T
end L3
namespace SP
open PySem PySem.W PyProof.Rows PySem.Calls
section
variable {prog : Program} {w : World} {A : Around} {E : Value → Shared → Prop} {s : Shared}
end
end SP
namespace L3
open PySem PySem.Spec PyProof.Rows L2
def VP (H : Hp) : List V → List SP.Pr → Prop := Paired fun v p => ∃ b, v = .ref b ∧ H b = some (.tup [.int p.1, .int p.2])
theorem VP.length {H : Hp} {vs : List V} {ps : List SP.Pr} (x : VP H vs ps) : vs.length = ps.length := Paired.length x
section
variable {X : Cx}
end
section
variable {X : Cx} {a : Expr} {es : List Expr} {mA : AM} {pos p : Pos}
end
end L3
namespace SP
open PySem PySem.W PyProof.Rows PySem.Calls
def DAt (h : Heap) (d : Addr) (es : Array DictEntry) (ep : Nat) : Prop := ∃ o, h.get? d = some o ∧ o.ExactDict ∧ o.data = .dict es ep
section
variable {prog : Program} {w : World} {A : Around} {E : Value → Shared → Prop} {s : Shared} {d it : Addr} {es : Array DictEntry} {ep i : Nat}
theorem DAt.keep {h h' : Heap} (x : DAt h d es ep) (k : ∀ o, h.get? d = some o → h'.get? d = some o) : DAt h' d es ep := let ⟨o, e, r⟩ := x; ⟨o, k o e, r⟩
theorem DAt.lt {h : Heap} (x : DAt h d es ep) : d < h.objs.size := let ⟨_, e, _⟩ := x; Heap.lt_size e
theorem DAt.ty (x : DAt s.heap d es ep) : s.TypeIs (.ref d) "dict" := let ⟨o, e, c, _⟩ := x; ⟨o, e, c.1⟩
theorem iterR {Q : Value → Shared → Prop} (hd : (d == sysModules) = false) (x : DAt s.heap d es ep)
    (hQ : Q (.ref s.heap.objs.size) { s with heap := s.heap.push { cls := .type "dict_keyiterator", data := .fields #[.ref d, .int 0 0, .int es.size 0, .int ep 0] } }) : wpAny (model prog w) A (pyIter (.ref d)) Q E s := by
  obtain ⟨o, ho, _, dat⟩ := id x
  refine wpAny_pyIter_slot x.ty PySem.F.slot_dict_iter (wpAny_call_entry PySem.F.slot_dict_iter x.ty PySem.F.entry_dict_iter (show wpAny _ _ (Builtin.«dict.__iter__» _) _ _ _ from ?_) (PySem.F.args_dict_iter_1 _))
  unfold Builtin.«dict.__iter__» Builtin.Dict.dictSlotNone
  refine wpAny_bind (wpAny_bind (wpAny_notOrdered_dict x.ty (show wpAny _ _ (pure (Value.ref d)) _ _ s from wpAny_pure ?_)))
  show wpAny _ _ (Builtin.Dict.showsAll d >>= _) _ _ s
  unfold Builtin.Dict.showsAll
  rw [hd, if_neg Bool.false_ne_true]
  refine wpAny_bind (wpAny_pure (wpAny_bind (wpAny_dictEntries ho dat (wpAny_bind (wpAny_dictEpoch ho dat ?_)))))
  refine wpAny_bind (wpAny_newObj_type (wpAny_pure ⟨_, rfl, "dict_keyiterator", _, ⟨_, Heap.get?_push_size _ rfl, rfl⟩, PySem.F.slot_dict_keyiterator_next.lookup, by simpa [rawInt] using hQ⟩))
theorem nextR {Q : Option Value → Shared → Prop} (hit : s.heap.IsKeyIter it d i es.size ep) (x : DAt s.heap d es ep) (hi : i < es.size)
    (hQ : ∀ h', h'.IsKeyIter it d (i + 1) es.size ep → Heap.SameBut it s.heap h' → Q (some es[i].key) { s with heap := h' }) : wpAny (model prog w) A (pyNext (.ref it)) Q E s := by
  obtain ⟨o, ho, hc, hd⟩ := id hit
  obtain ⟨od, hod, _, hdd⟩ := id x
  have hown : Builtin.Dict_items.ownsTuple "dict_keyiterator" = false := by decide
  unfold pyNext
  refine wpAny_bind (wpAny_attempt (wpAny_callSpecial?_slot (name := Str.ofString "__next__") hit.typeIs PySem.F.slot_dict_keyiterator_next (wpAny_call_entry PySem.F.slot_dict_keyiterator_next hit.typeIs PySem.F.entry_dict_keyiterator_next ?_ (PySem.F.args_dict_keyiterator_next_1 _))))
  refine wpAny_bind (wpAny_pure (wpAny_bind (wpAny_bind ?_)))
  first | refine wpAny_bind (wpAny_typeNameOfWhole_keyiter hit.typeIs (wpAny_pure (wpAny_bind (wpAny_fieldsOf ho hd ?_)))) | refine wpAny_bind (wpAny_typeNameOf_keyiter hit.typeIs (wpAny_pure (wpAny_bind (wpAny_fieldsOf ho hd ?_))))
  simp only [hown, Bool.false_eq_true, if_false]
  show wpAny _ _ (if (Value.ref d == Value.none) = true then _ else _) _ _ s
  rw [if_neg (show ¬ ((Value.ref d == Value.none) = true) from Bool.false_ne_true)]
  refine wpAny_bind (wpAny_pure (wpAny_bind (wpAny_dictEntries hod hdd ?_)))
  rw [if_neg (by simp)]
  refine wpAny_bind (wpAny_pure (wpAny_bind (wpAny_dictEpoch hod hdd ?_)))
  rw [if_neg (by simp)]
  refine wpAny_pure ?_
  simp only [show ¬ ((i : Int) < 0) from by omega, if_false, Int.toNat_natCast, Array.getElem?_eq_getElem hi]
  refine wpAny_bind ?_
  first | refine wpAny_bind (wpAny_typeNameOfWhole_keyiter hit.typeIs (wpAny_pure (wpAny_bind (wpAny_isOneOf_keyiter hit.typeIs ?_)))) | refine wpAny_bind (wpAny_typeNameOf_keyiter hit.typeIs (wpAny_pure (wpAny_bind (wpAny_isOneOf_keyiter hit.typeIs ?_))))
  show wpAny _ _ (setField (.ref it) 1 (rawInt ((i : Int) + 1)) >>= _) _ _ s
  have on : (s.heap.update it (Obj.mapFields (·.setIfInBounds 1 (rawInt ((i : Int) + 1))))).IsKeyIter it d (i + 1) es.size ep := ⟨_, Heap.get?_update_self _ ho (Obj.isFreed_of_fields (Obj.data_mapFields hd _)), (Obj.cls_mapFields ..).trans hc, by rw [Obj.data_mapFields hd]; simp [rawInt]⟩
  refine wpAny_bind (wpAny_setField ho hd (by simp) (wpAny_bind (wpAny_holding (wpAny_bind (wpAny_isOneOf_keyiter (s := { s with heap := s.heap.update it (Obj.mapFields (·.setIfInBounds 1 (rawInt ((i : Int) + 1)))) }) on.typeIs ?_)))))
  show wpAny _ _ (pure es[i].key) _ _ _
  exact wpAny_pure (wpAny_pure ⟨_, rfl, wpAny_pure (hQ _ on (Heap.SameBut.update ..))⟩)
theorem endR {Q : Option Value → Shared → Prop} (hh : A.handled = none) (hit : s.heap.IsKeyIter it d i es.size ep) (x : DAt s.heap d es ep) (hi : es.size ≤ i)
    (hQ : ∀ h', Heap.ExtBut it s.heap h' → Q none { s with heap := h' }) : wpAny (model prog w) A (pyNext (.ref it)) Q E s := by
  obtain ⟨o, ho, hc, hd⟩ := id hit
  obtain ⟨od, hod, _, hdd⟩ := id x
  have hown : Builtin.Dict_items.ownsTuple "dict_keyiterator" = false := by decide
  unfold pyNext
  refine wpAny_bind (wpAny_attempt (wpAny_callSpecial?_slot (name := Str.ofString "__next__") hit.typeIs PySem.F.slot_dict_keyiterator_next (wpAny_call_entry PySem.F.slot_dict_keyiterator_next hit.typeIs PySem.F.entry_dict_keyiterator_next ?_ (PySem.F.args_dict_keyiterator_next_1 _))))
  refine wpAny_bind (wpAny_pure (wpAny_bind (wpAny_bind ?_)))
  first | refine wpAny_bind (wpAny_typeNameOfWhole_keyiter hit.typeIs (wpAny_pure (wpAny_bind (wpAny_fieldsOf ho hd ?_)))) | refine wpAny_bind (wpAny_typeNameOf_keyiter hit.typeIs (wpAny_pure (wpAny_bind (wpAny_fieldsOf ho hd ?_))))
  simp only [hown, Bool.false_eq_true, if_false]
  show wpAny _ _ (if (Value.ref d == Value.none) = true then _ else _) _ _ s
  rw [if_neg (show ¬ ((Value.ref d == Value.none) = true) from Bool.false_ne_true)]
  refine wpAny_bind (wpAny_pure (wpAny_bind (wpAny_dictEntries hod hdd ?_)))
  rw [if_neg (by simp)]
  refine wpAny_bind (wpAny_pure (wpAny_bind (wpAny_dictEpoch hod hdd ?_)))
  rw [if_neg (by simp)]
  refine wpAny_pure ?_
  simp only [show ¬ ((i : Int) < 0) from by omega, if_false, Int.toNat_natCast, Array.getElem?_eq_none hi]
  refine wpAny_bind ?_
  first | refine wpAny_bind (wpAny_typeNameOfWhole_keyiter hit.typeIs (wpAny_pure (show wpAny _ _ (setField (.ref it) 0 .none >>= _) _ _ s from ?_))) | refine wpAny_bind (wpAny_typeNameOf_keyiter hit.typeIs (wpAny_pure (show wpAny _ _ (setField (.ref it) 0 .none >>= _) _ _ s from ?_)))
  refine wpAny_bind (wpAny_setField ho hd (by simp) (show wpAny _ _ (newExc (.type "StopIteration") [] >>= _) _ _ _ from wpAny_bind ?_))
  simp only [newExc, newTuple]
  refine wpAny_bind (wpAny_newObj_type (wpAny_bind (m := firstArgMember _ _) (wpAny_of_eq (a := Value.none) (by first | rfl | (simp only [firstArgMember]; rfl)) (wpAny_newObj_type ?_ (by size_fits)))) (by size_fits))
  simp only [raiseNew]
  refine wpAny_bind (wpAny_handled ?_)
  rw [show A.in1.handled = none from hh]
  refine wpAny_bind (wpAny_pure (wpAny_throw ?_))
  refine wpAny_bind (wpAny_isInstance (T := "StopIteration") (b := true) ⟨_, Heap.get?_push_size _ rfl, rfl⟩ isSubtype_stop ?_)
  exact wpAny_pure (hQ _ (((Heap.SameBut.update ..).extBut.push _).push _))
theorem walksR (hh : A.handled = none) (I d : Addr) (hne : d ≠ I) (es : Array DictEntry) (ep : Nat) :
    Walks prog w A I [I, d] [I] es.size (fun i v => es[i]?.map (·.key) = some v) (fun i h => h.IsKeyIter I d i es.size ep ∧ DAt h d es ep) where
  sub := fun b hb => by simp at hb; simp [hb]
  frame := fun _ _ _ st hk => ⟨st.1.at fun o e => hk I (by simp) o e, st.2.keep fun o e => hk d (by simp) o e⟩
  item := fun i s Q E hi st hQ => nextR st.1 st.2 hi fun h' hit' hs' => hQ _ h' s.toks (by simp [hi]) ⟨hit', st.2.keep fun o e => hs'.extBut d o hne e⟩ fun b o hb e => hs'.extBut b o (fun h => hb (by simp [h])) e
  done := fun s Q E st hQ => endR hh st.1 st.2 (Nat.le_refl _) fun h' he' => hQ h' s.toks fun b o hb e => he' b o (fun h => hb (by simp [h])) e
  self := fun _ _ _ _ st hQ => wpAny_pyIter_keyiter st.1 hQ
theorem srcR (lo : (d == sysModules) = false) : KdlSrc prog w "dict" d d es.size (fun i v => es[i]?.map (·.key) = some v) (fun h => DAt h d es ep) where
  type := fun _ hm => hm.ty
  there := fun _ hm => ⟨hm.lt, hm.lt⟩
  keep := fun _ _ hm hk => hm.keep fun o e => hk d (.inl rfl) o e
  notList := by decide
  notTuple := by decide
  hint := fun _ _ _ _ hm hq => kdl_hint_dict hm.ty hq
  iter := fun _ _ hh hm => ⟨_, _, (fun _ _ hq => iterR lo hm hq), walksR hh _ d (Nat.ne_of_lt hm.lt) es ep, ⟨⟨_, Heap.get?_push_size _ rfl, rfl, rfl⟩, hm.keep fun o e => Heap.get?_push_of_some _ e⟩⟩
end
end SP
namespace L3
open PySem PySem.Spec PyProof.Rows L2
theorem kt_key {H : Hp} {kvs : List (List Key × V)} {xs : List (List Key × Addr × Value)} (r : KT H kvs xs) : ∀ {i : Nat} {p : List Key × V}, kvs[i]? = some p → ∃ q, xs[i]? = some q ∧ p.1 = q.1 ∧ H q.2.1 = some (.tup (p.1.map kV)) := by
  induction r with
  | nil => intro i p h; simp at h
  | cons hq _ ih =>
    intro i p h
    cases i with
    | zero => simp at h; subst h; exact ⟨_, rfl, hq.1, hq.2.1⟩
    | succ j => obtain ⟨q, h1, h2⟩ := ih (i := j) (by simpa using h); exact ⟨q, by simpa using h1, h2⟩
theorem dt_at {P : Program} {w : World} {H : Hp} {h : Heap} {a : Addr} {kvs : List (List Key × V)} (ok : HOk P w H h) (e : Rd H a (.dT kvs)) : kvs.length ≤ sizeLine ∧ (a == sysModules) = false ∧ (kvs.map (·.1)).Nodup ∧
    ∃ (es : Array DictEntry) (ep : Nat), SP.DAt h a es ep ∧ es.size = kvs.length ∧ ∀ (i : Nat) (p : List Key × V), kvs[i]? = some p → ∃ b, (es[i]?.map (·.key)) = some (Value.ref b) ∧ H b = some (.tup (p.1.map kV)) := by
  obtain ⟨z, hs, xs, r, o, es, ep, h1, h2, h3, h4, _, h6⟩ := dt_rd ok e
  have hk : kvs.map (·.1) = xs.map (·.1) := by
    have all : ∀ {l : List (List Key × V)} {m : List (List Key × Addr × Value)}, KT H l m → l.map (·.1) = m.map (·.1) := by
      intro l m q
      induction q with
      | nil => rfl
      | cons hq _ ih => rw [List.map_cons, List.map_cons, hq.1, ih]
    exact all r
  refine ⟨z, hs, by rw [hk]; exact h6, es, ep, ⟨o, h1, h2, h3⟩, by rw [size_of_entries h4, Paired.length r], fun i p hp => ?_⟩
  obtain ⟨q, q1, _, q3⟩ := kt_key r hp
  exact ⟨q.2.1, by rw [entry_at h4, q1]; rfl, q3⟩
section
variable {X : Cx} {tg : Expr}
end
def tD (k : List Key) : D := .tup (k.map kD)
theorem rds_kD {ρ : List Addr} {H : Hp} : ∀ ks : List Key, RDs ρ H (ks.map kD) (ks.map kV)
  | [] => .nil
  | k :: ks => .cons (rd_kD k) (rds_kD ks)
section
variable {X : Cx} {tgt iter : Expr} {m : EM}
end
section
variable {X : Cx}
end
theorem fst_zipT {ρ : List Addr} {H : Hp} {kvs : List (List Key × D)} {vs : List V} (r : RDs ρ H (kvs.map (·.2)) vs) : ((kvs.map (·.1)).zip vs).map (·.1) = kvs.map (·.1) := by
  rw [List.map_fst_zip]
  have := r.length
  rw [List.length_map] at this ⊢
  omega
section
variable {X : Cx} {a : Expr} {es : List Expr} {mA : AM} {pos p : Pos}
end
end L3
namespace L3
open PySem PySem.Spec PyProof.Rows L2
theorem ite_any {α : Type} {c : Prop} [Decidable c] {x : Option α} {y : α} (h : (if c then x else none) = some y) : c ∧ x = some y := by
  by_cases e : c
  · rw [if_pos e] at h; exact ⟨e, h⟩
  · rw [if_neg e] at h; cases h
section
variable {X : Cx} {a : Expr}
end
section
variable {prog : Program} {w : World} {A : Around} {E : Value → Shared → Prop} {s : Shared} {c : Addr} {i j : Int} {t u : Tok}
end
section
variable {X : Cx}
end
section
variable {X : Cx} {a : Expr} {es : List Expr} {mA : AM} {pos p : Pos}
end
section
variable {prog : Program} {w : World} {K : Type} [DecidableEq K] {knd : HeapKind prog w K} {A : Around} {E : Value → Shared → Prop} {s : Shared} {d a : Addr} {k : K} {xs : List (K × Addr × Value)} {z : Value}
end
section
variable {X : Cx} {o e f : Expr} {td ty tx : TE} {apos cpos : Pos}
end
section
variable {X : Cx} {o e f : Expr} {mo me mf : EM} {apos cpos : Pos} {k : Nat}
end
end L3
namespace L3
open PySem PySem.Spec PyProof.Rows L2
section
variable {h : Heap} {p : PyData}
noncomputable def eqR (h : Heap) (p : PyData) (y : Value) : Bool := @decide (∃ q as, Reads h y q as ∧ q.canLay0 = true ∧ q.eqv p = true) (Classical.propDecidable _)
theorem eqR_of {y : Value} {q : PyData} {as : List Addr} (r : Reads h y q as) (c : q.canLay0 = true) : eqR h p y = q.eqv p := by
  unfold eqR
  cases e : q.eqv p with
  | true => exact @decide_eq_true _ (Classical.propDecidable _) ⟨q, as, r, c, e⟩
  | false =>
    refine @decide_eq_false _ (Classical.propDecidable _) fun ⟨q', as', r', _, e'⟩ => ?_
    have := PySem.SeqAt.Reads.unique q q' y as as' c r r'
    subst this
    rw [e] at e'; cases e'
theorem any_eqR : ∀ {us : List Value} {qs : List PyData} {as : List Addr}, ReadsAll h us qs as → PyData.canLayAll0 qs = true → us.map (eqR h p) = qs.map fun q => q.eqv p
  | _, _, _, .nil, _ => rfl
  | _, _, _, .cons r rs, c => by
    rw [PyData.canLayAll0, Bool.and_eq_true] at c
    rw [List.map_cons, List.map_cons, eqR_of r c.1, any_eqR rs c.2]
theorem mem_eqR {A : Around} {s : Shared} {x : Value} {bs : List Addr} (rx : Reads s.heap x p bs) (cx : p.canLay0 = true) (hu : A.units + p.depth < cLine) : ∀ {us : List Value} {qs : List PyData} {as : List Addr}, ReadsAll s.heap us qs as → PyData.canLayAll0 qs = true → ∀ y ∈ us, SeqAt.EqAt A s y x (eqR s.heap p y)
  | _, _, _, .nil, _ => fun y hy => by cases hy
  | _, _, _, .cons r rs, c => fun y hy => by
    rw [PyData.canLayAll0, Bool.and_eq_true] at c
    rcases List.mem_cons.mp hy with e | hy
    · subst e
      rw [eqR_of r c.1]
      exact PySem.SeqAt.eqAt_reads _ p A s _ x _ bs r rx c.1 cx (Nat.lt_of_le_of_lt (Nat.add_le_add_left (Nat.min_le_right _ _) _) hu)
    · exact mem_eqR rx cx hu rs c.2 y hy
end
def rInD (K : PySem.W.Frag) (neg : Bool) : R2 := fun x y H Q => ∃ ρ S dx xs p qs a us, Sim K ρ S H ∧ RD ρ H dx x ∧ y = .ref a ∧ SqL K H a us ∧ RDs ρ H xs us ∧ pyOf S 60 dx = some p ∧ pyAll S 60 xs = some qs ∧ p.canLay0 = true ∧ PyData.canLayAll0 qs = true ∧ Q (.bl (if neg then !qs.any fun q => q.eqv p else qs.any fun q => q.eqv p)) H
def dInD (neg : Bool) : D → D → Sto → Option (D × Sto)
  | x, .ref n, S => (lstOf S n).bind fun xs => (pyOf S 60 x).bind fun p => (pyAll S 60 xs).bind fun qs => if p.canLay0 = true ∧ PyData.canLayAll0 qs = true then some (.bl (if neg then !qs.any fun q => q.eqv p else qs.any fun q => q.eqv p), S) else none
  | _, _, _ => none
section
variable {X : Cx} {k : Nat}
theorem any_of_map {us : List Value} {qs : List PyData} {f : Value → Bool} {g : PyData → Bool} (h : us.map f = qs.map g) : us.toArray.any f = qs.any g := by
  have h1 : us.any f = (us.map f).any id := by simp [List.any_map]
  have h2 : qs.any g = (qs.map g).any id := by simp [List.any_map]
  rw [List.any_toArray, h1, h, ← h2]
theorem op_inD (hr : Room k X.A) : OpR X (compareOp .In) (rInD X.K false) := by
  intro pins s σ H x y v u Q I rx ry h
  obtain ⟨ρ, S, dx, xs, p, qs, a, us, sim, r1, rfl, sq, r2, h1, h2, c1, c2, hq⟩ := h
  cases ry
  obtain ⟨⟨as, k1⟩, _, _, k2⟩ := reads_of I sim 60 dx x v p r1 rx h1
  obtain ⟨its, rv, pl, _⟩ := I.list sq
  obtain ⟨⟨bs, k3⟩, _, _, _⟩ := readsAll_of I sim 60 xs us its qs r2 rv h2
  refine SeqAt.in_listAt (eqR s.heap p) pl.isList (fun w hw => mem_eqR k1 c1 (by have := hr.un; show X.A.units + 1 + _ < _; omega) k3 c2 w (by simpa using hw)) ⟨.bl _, H, I, rfl, ?_⟩
  rw [any_of_map (any_eqR k3 c2)]
  exact hq
theorem op_notInD (hr : Room k X.A) : OpR X (compareOp .NotIn) (rInD X.K true) := by
  intro pins s σ H x y v u Q I rx ry h
  obtain ⟨ρ, S, dx, xs, p, qs, a, us, sim, r1, rfl, sq, r2, h1, h2, c1, c2, hq⟩ := h
  cases ry
  obtain ⟨⟨as, k1⟩, _, _, k2⟩ := reads_of I sim 60 dx x v p r1 rx h1
  obtain ⟨its, rv, pl, _⟩ := I.list sq
  obtain ⟨⟨bs, k3⟩, _, _, _⟩ := readsAll_of I sim 60 xs us its qs r2 rv h2
  refine SeqAt.notIn_listAt (eqR s.heap p) pl.isList (fun w hw => mem_eqR k1 c1 (by have := hr.un; show X.A.units + 1 + _ < _; omega) k3 c2 w (by simpa using hw)) ⟨.bl _, H, I, rfl, ?_⟩
  rw [any_of_map (any_eqR k3 c2)]
  exact hq
theorem op3_inD {K : PySem.W.Frag} {neg : Bool} : Op3 K (dInD neg) (rInD K neg) := by
  intro ρ S H x y x' y' v S' Q sim rx ry h p
  unfold dInD at h
  split at h
  · obtain ⟨xs, h1, h⟩ := bnd h
    obtain ⟨d1, h2, h⟩ := bnd h
    obtain ⟨ds, h3, h⟩ := bnd h
    obtain ⟨hc, e⟩ := ite_some h
    cases e
    obtain ⟨a, us, ha, sq, rv⟩ := sim.lstOf h1
    cases ry with
    | ref hn =>
      rw [ha] at hn; cases hn
      exact ⟨ρ, _, x, xs, d1, ds, a, us, sim, rx, rfl, sq, rv, h2, h3, hc.1, hc.2, p ρ H _ (Ext.refl ..) sim (.bl _)⟩
  · cases h
variable {a b : Expr} {ma mb : EM} {pos : Pos}
theorem t3_inD (hr : Room k X.A) (ha : PE3 X a ma) (hb : PE3 X b mb) (hm : behindInMarks .In b = false := by rfl) : PT3 X (.Compare a [.In] [b] pos) (tE (eOp (dInD false) ma mb)) := t3_cmp (op_inD hr) (op3_inD (neg := false)) ha hb hm
theorem t3_notinD (hr : Room k X.A) (ha : PE3 X a ma) (hb : PE3 X b mb) (hm : behindInMarks .NotIn b = false := by rfl) : PT3 X (.Compare a [.NotIn] [b] pos) (tE (eOp (dInD true) ma mb)) := t3_cmp (op_notInD hr) (op3_inD (neg := true)) ha hb hm
end
def rIndex (K : PySem.W.Frag) : V → List V → Hp → VK → Prop := fun y vs H Q => ∃ x ρ S dx xs p qs a us j, vs = [x] ∧ Sim K ρ S H ∧ RD ρ H dx x ∧ y = .ref a ∧ H a = some (.lst us) ∧ RDs ρ H xs us ∧ pyOf S 60 dx = some p ∧ pyAll S 60 xs = some qs ∧ p.canLay0 = true ∧ PyData.canLayAll0 qs = true ∧ (qs.map fun q => q.eqv p).idxOf? true = some j ∧ Q (.int j) H
def mIndex : D → List D → Sto → Option (D × Sto)
  | .ref n, [x], S => match S[n]? with
    | some (.lst xs) => (pyOf S 60 x).bind fun p => (pyAll S 60 xs).bind fun qs => if p.canLay0 = true ∧ PyData.canLayAll0 qs = true then ((qs.map fun q => q.eqv p).idxOf? true).bind fun j => some (.int j, S) else none
    | _ => none
  | _, _, _ => none
theorem idx_at {l : List Bool} {j : Nat} (h : l.idxOf? true = some j) : l[j]? = some true ∧ ∀ m, m < j → l[m]? = some false := by
  unfold List.idxOf? at h
  rw [List.findIdx?_eq_some_iff_getElem] at h
  obtain ⟨hj, h1, h2⟩ := h
  refine ⟨by rw [List.getElem?_eq_getElem hj]; simpa using h1, fun m hm => ?_⟩
  have := h2 m hm
  rw [List.getElem?_eq_getElem (Nat.lt_trans hm hj)]
  simpa using this
section
variable {X : Cx} {k : Nat}
theorem mt_index (hr : Room k X.A) : MtM X "list.index" (rIndex X.K) := by
  intro pins s σ H y vs v us' Q I ry rv' h
  obtain ⟨x, ρ, S, dx, xs, p, qs, a, us, j, rfl, sim, r1, rfl, hH, r2, h1, h2, c1, c2, hj, hq⟩ := h
  cases ry
  obtain ⟨u, rfl, ru⟩ := rv'.one
  obtain ⟨⟨as, k1⟩, _, _, k2⟩ := reads_of I sim 60 dx x u p r1 ru h1
  obtain ⟨z, its, n, rv, hl, e⟩ := I.lstM hH
  obtain ⟨⟨bs, k3⟩, _, _, _⟩ := readsAll_of I sim 60 xs us its qs r2 rv h2
  have em := any_eqR (p := p) k3 c2
  rw [← em] at hj
  obtain ⟨g1, g2⟩ := idx_at hj
  have hjl : j < its.length := by have := (List.getElem?_eq_some_iff.mp g1).1; simpa using this
  have e1 : eqR s.heap p its.toArray[j] = true := by
    rw [List.getElem?_map, List.getElem?_eq_getElem hjl] at g1
    simpa using g1
  have hsm : (j : Int) < 2 ^ 63 - 1 := by
    have : (sizeLine : Nat) = 16777216 := sizeLine_eq
    omega
  refine call_meets F.slot_list_index ⟨_, e, rfl⟩ F.entry_list_index (F.args_list_index_2 _ _) (SeqAt.list_indexAt a its.toArray n none #[] u (eqR s.heap p) j (by simpa using hjl) hsm e1 fun m hm hmj => ?_) ⟨e, fun w hw => mem_eqR k1 c1 (by have := hr.un; show X.A.units + 1 + _ < _; omega) k3 c2 w (by simpa using hw), ⟨.int j, H, I.tok _, ⟨_, rfl⟩, hq⟩⟩
  have := g2 m hmj
  have hml : m < its.length := by simpa using hm
  rw [List.getElem?_map, List.getElem?_eq_getElem hml] at this
  simpa using this
theorem mt3_index {K : PySem.W.Frag} : Mt3 K mIndex (rIndex K) := by
  intro ρ S H x x' xs vs v S' Q sim rx r h p
  unfold mIndex at h
  split at h
  · split at h
    · rename_i n y S ys e
      obtain ⟨d1, h2, h⟩ := bnd h
      obtain ⟨ds, h3, h⟩ := bnd h
      obtain ⟨hc, h⟩ := ite_any h
      obtain ⟨j, hj, h⟩ := bnd h
      cases h
      obtain ⟨w, rfl, rw'⟩ := r.one
      obtain ⟨a, us, ha, hH, r2⟩ := sim.lst e
      cases rx with
      | ref hn =>
        rw [ha] at hn; cases hn
        exact ⟨w, ρ, _, y, ys, d1, ds, a, us, j, rfl, sim, rw', rfl, hH, r2, h2, h3, hc.1, hc.2, hj, p ρ H _ (Ext.refl ..) sim (.int _)⟩
    · cases h
  · cases h
variable {o e : Expr} {mo me : EM} {apos cpos : Pos}
theorem p3_index (hr : Room k X.A) (ho : PE3 X o mo) (he : PE3 X e me) (hbase : attributeBase o "index" X.env (eval o X.env) = eval o X.env := by rfl)
    (hfew : ((backTo cpos (starEach [e] X.env)).all (fun x => !x.1) && (backToKw cpos (keywordEach [] X.env)).all (fun x => x.1.isSome) && decide (([e] : List Expr).length + ([] : List Keyword).length + (if ([] : List Keyword).isEmpty then 0 else 1) < 30)) = true := by rfl)
    (hline : (apos.endLine == cpos.line) = true := by rfl) (hs : starEach [e] X.env = (false, eval e X.env) :: starEach [] X.env := by rfl) (hplain : (backTo cpos (starEach [] X.env)).any (·.1) = false := by rfl) :
    PE3 X (.Call (.Attribute o "index" apos) [e] [] cpos) (eMethL mIndex mo (aCons me aNil)) := p3_bm PySem.F.slot_list_index PySem.F.type_list_index (mt_index hr) mt3_index ho (a3_cons he a3_nil hs) hbase hfew hline hs hplain
end
def mClear : D → List D → Sto → Option (D × Sto)
  | .ref n, [], S => match S[n]? with
    | some (.lst _) => some (.non, S.set n (.lst []))
    | _ => none
  | _, _, _ => none
theorem mt3_clear {K : PySem.W.Frag} : Mt3 K mClear rClear := by
  intro ρ S H x x' xs vs v S' Q sim rx r h p
  unfold mClear at h
  split at h
  · split at h
    · rename_i n S ys e
      cases h
      cases r
      obtain ⟨a, us, ha, hH, r2⟩ := sim.lst e
      cases rx with
      | ref hn =>
        rw [ha] at hn; cases hn
        exact ⟨a, us, rfl, rfl, hH, p ρ _ _ (ext_upd ha hH) (sim.set ha e hH .nil) .non⟩
    · cases h
  · cases h
section
variable {X : Cx} {o : Expr} {mo : EM} {apos cpos : Pos}
theorem p3_clear (ho : PE3 X o mo) (hbase : attributeBase o "clear" X.env (eval o X.env) = eval o X.env := by rfl) (hline : (apos.endLine == cpos.line) = true := by rfl) :
    PE3 X (.Call (.Attribute o "clear" apos) [] [] cpos) (eMethL mClear mo aNil) := p3_bm0 PySem.F.slot_list_clear PySem.F.type_list_clear mt_clear mt3_clear ho hbase hline
end
def tDisp1 (K : PySem.W.Frag) (tk tv : TE) : TE := fun σ H Q => ∀ p, H p = none → K.lookup p = none → tk σ (upd H p (.dT [])) fun x H1 => tv σ H1 fun y H2 => ∃ k b, H2 p = some (.dT []) ∧ x = .ref b ∧ H2 b = some (.tup (k.map kV)) ∧ Q (.ref p) (upd H2 p (.dT (putK [] k y)))
section
variable {X : Cx} {pos : Pos} {ke ve : Expr}
theorem pe_disp1 {k : Nat} {tk tv : TE} (hr : Room k X.A) (hk : PE X ke tk) (hv : PE X ve tv) : PE X (.Dict [some ke] [ve] pos) (tDisp1 X.K tk tv) := by
  intro pins s σ H Q I q
  have hn := I.hok.fresh (Nat.le_refl s.heap.objs.size)
  have hK : X.K.lookup s.heap.objs.size = none := by
    cases e : X.K.lookup s.heap.objs.size with
    | none => rfl
    | some o => exact absurd (Heap.lt_size (I.kIn _ o e)) (Nat.lt_irrefl _)
  have I1 := I.laid (a := s.heap.objs.size) (o := .dT []) (h' := s.heap.push { cls := .type "dict", data := .dict #[] }) (t' := s.toks) (fun _ _ q => Heap.get?_push_of_some _ q) (Nat.le_refl _) (dt_empty s.heap I.big)
  refine wpAny_Dict_any rfl rfl (by simp) (by simp) (pairTrees_cons_walk (thn (hk pins _ σ _ _ I1 (q _ hn hK)) fun u s1 ⟨x, H1, I2, rx, q1⟩ => thn (hv pins s1 σ H1 _ I2 q1) fun w2 s2 ⟨y, H2, I3, ry, kk, b, hp, ex, hb, q2⟩ => pairTrees_nil_walk ?_))
  subst ex
  cases (show u = Value.ref b from rx)
  unfold storeAll
  rw [List.forIn_cons]
  obtain ⟨zz, hd, xs, rel, dd⟩ := dt_of I3.hok hp
  have hz : xs.length ≤ sizeLine := by rw [← Paired.length rel]; exact zz
  refine wpAny_bind (wpAny_bind (wpAny_dictSet_heap (hsz := hz) (Nat.lt_of_succ_lt (hu_of3 hr)) (key_of I3.hok hb) dd fun h' dd' hs => wpAny_pure ?_))
  show wpAny _ _ (forIn ([] : List (Value × Value)) PUnit.unit _) _ _ _
  rw [List.forIn_nil]
  refine wpAny_pure ?_
  obtain ⟨g, es, ep, hg, h2, h3, h4, _, h5⟩ := dd'
  refine ⟨.ref s.heap.objs.size, _, d_write (ob := .dT (putK [] kk y)) (t' := s2.toks + _) I3 (by rw [hp]; exact True.intro) hs ⟨g, hg⟩ ⟨by show (putK [] kk y).length ≤ _; exact Nat.le_trans (length_putK [] kk y) (by decide), hd, _, (rel.put kk hb ry).keeps fun c ys ec => ?_, g, es, ep, hg, h2, h3, h4, h5⟩, rfl, q2⟩
  rw [upd_ne (ne_of ec hp (fun z => nomatch z))]
  exact ec
end
def eDict1T (mk mv : EM) : EM := fun l S => (mk l S).bind fun p => (mv l p.2).bind fun q => (tKey p.1).bind fun k => some (.ref q.2.length, q.2 ++ [.tdct [(k, q.1)]])
section
variable {X : Cx} {pos : Pos} {ke ve : Expr} {mk mv : EM} {k : Nat}
theorem p3_dict1T (hr : Room k X.A) (hk : PE3 X ke mk) (hv : PE3 X ve mv) : PE3 X (.Dict [some ke] [ve] pos) (eDict1T mk mv) := PE.imp (pe_disp1 hr hk hv) fun σ H Q ⟨ρ, l, S, v, S', sim, ro, hm, p⟩ => by
  obtain ⟨⟨x, S1⟩, q1, hm⟩ := bnd hm
  obtain ⟨⟨y, S2⟩, q2, hm⟩ := bnd hm
  obtain ⟨kk, hk, hm⟩ := bnd hm
  cases hm
  intro D hD hK
  have hn0 := sim.notin hD hK
  refine ⟨ρ, l, S, x, S1, sim.laid hD, ro.mono (ext_new hD), q1, fun ρ1 H1 x' e1 s1 r1 => ⟨ρ1, l, S1, y, _, s1, (ro.mono (ext_new hD)).mono e1, q2, fun ρ2 H2 y' e2 s2 r2 => ?_⟩⟩
  obtain ⟨hD1, hn1⟩ := e1.out D _ upd_same hn0
  obtain ⟨hD2, hn2⟩ := e2.out D _ hD1 hn1
  obtain ⟨b, rfl, hb⟩ := tKey_rd hk (r1.mono e2)
  have e12 := (ext_new hD).trans (e1.trans e2)
  refine ⟨kk, b, hD2, rfl, hb, p (ρ2 ++ [D]) _ (.ref D) ((e12.besideG hD hD2 (plain_dT _)).adopt hD) ((s2.besideG hD2 (plain_dT _) hn2).adoptG ⟨[y'], by rw [upd_same]; rfl, .cons (r2.mono0 (ext0_updG hD2 (plain_dT _))) .nil⟩ hn2) (.ref ?_)⟩
  rw [← s2.len]; exact get_self ρ2 D
end
def rListD (K : PySem.W.Frag) : List V → Hp → VK → Prop := fun xs H Q => ∃ (a : Addr) (kvs : List (List Key × V)), xs = [.ref a] ∧ Rd H a (.dT kvs) ∧ ∀ l ws, H l = none → Paired (fun (w : V) (p : List Key × V) => ∃ b, w = .ref b ∧ H b = some (.tup (p.1.map kV))) ws kvs → Q (.ref l) (upd H l (.lst ws))
theorem keys_of {H : Hp} : ∀ {kvs : List (List Key × V)} {us : List Value}, us.length = kvs.length → (∀ (i : Nat) (p : List Key × V), kvs[i]? = some p → ∃ b, us[i]? = some (Value.ref b) ∧ H b = some (.tup (p.1.map kV))) → ∃ ws, Vals ws us ∧ Paired (fun (w : V) (p : List Key × V) => ∃ b, w = .ref b ∧ H b = some (.tup (p.1.map kV))) ws kvs
  | [], [], _, _ => ⟨[], .nil, .nil⟩
  | [], _ :: _, e, _ => by simp at e
  | _ :: _, [], e, _ => by simp at e
  | p :: ps, u :: us, e, f => by
    obtain ⟨b, h1, h2⟩ := f 0 p rfl
    cases (show u = .ref b by simpa using h1)
    obtain ⟨ws, w1, w2⟩ := keys_of (kvs := ps) (us := us) (by simpa using e) fun i q hq => by simpa using f (i + 1) q (by simpa using hq)
    exact ⟨.ref b :: ws, .cons rfl w1, .cons ⟨b, rfl, h2⟩ w2⟩
section
variable {X : Cx}
theorem call_listD (hcalm : X.calm = true) : CallR X (.type "list") (rListD X.K) := by
  intro pins s σ H xs us Q I r h
  obtain ⟨a, kvs, rfl, hH, q⟩ := h
  obtain ⟨u, rfl, ru⟩ := vals1 r
  cases ru
  obtain ⟨z, hs, nd, es, ep, da, hsz, hk⟩ := dt_at I.hok hH
  refine PySem.W.kdl_call (SP.srcR (es := es) (ep := ep) hs) (I.ok.hd hcalm) da (by omega) fun h' tk acc c keep hD hacc => ?_
  obtain ⟨ws, w1, w2⟩ := keys_of (H := H) (kvs := kvs) (us := acc.toList) (by rw [Array.length_toList, hacc.1, hsz]) fun i p hp => by
    obtain ⟨b, hb, hHb⟩ := hk i p hp
    have hi : i < acc.size := by rw [hacc.1, hsz]; exact (List.getElem?_eq_some_iff.mp hp).1
    have := hacc.2 i _ (Array.getElem?_eq_getElem hi)
    dsimp only at this
    rw [hb] at this
    exact ⟨b, by rw [Array.getElem?_toList, Array.getElem?_eq_getElem hi]; exact this.symm, hHb⟩
  have hl : ws.length ≤ sizeLine := by rw [Paired.length w2]; exact z
  exact ⟨.ref s.heap.objs.size, _, I.laid (t' := tk) keep (Nat.le_refl _) (show ObjOk X.prog X.w _ _ _ (.lst ws) from ⟨hl, acc.toList, c, w1, by simpa using hD⟩), rfl, q _ ws (I.hok.fresh (Nat.le_refl _)) w2⟩
end
def fListD : FM
  | [.ref n], S => match S[n]? with
    | some (.tdct kvs) => some (.ref S.length, S ++ [.lst (kvs.map fun q => tD q.1)])
    | some (.ftdct kvs) => some (.ref S.length, S ++ [.lst (kvs.map fun q => tD q.1)])
    | _ => none
  | _, _ => none
theorem rds_keys {ρ : List Addr} {H : Hp} {ks : List (List Key × V)} {ws : List V} (w : Paired (fun (w : V) (p : List Key × V) => ∃ b, w = .ref b ∧ H b = some (.tup (p.1.map kV))) ws ks) : RDs ρ H (ks.map fun q => tD q.1) ws := by
  induction w with
  | nil => exact .nil
  | cons q _ ih =>
    obtain ⟨b, rfl, hb⟩ := q
    exact .cons (.tup hb (rds_kD _)) ih
theorem keys_zip {ρ : List Addr} {H : Hp} {kvs : List (List Key × D)} {vs : List V} (r : RDs ρ H (kvs.map (·.2)) vs) : (((kvs.map (·.1)).zip vs).map fun q => tD q.1) = kvs.map fun q => tD q.1 := by
  have := congrArg (List.map tD) (fst_zipT r)
  simpa [List.map_map, Function.comp_def] using this
theorem fn3_listD {K : PySem.W.Frag} : Fn3 K fListD (rListD K) := by
  intro ρ S H xs vs v S' Q sim r h p
  unfold fListD at h
  split at h
  · rename_i n
    obtain ⟨w, rfl, rw'⟩ := r.one
    cases rw' with
    | @ref _ a hn =>
      split at h
      · rename_i kvs e
        cases h
        obtain ⟨us, hH, rr⟩ := sim.at' _ a _ hn e
        exact ⟨a, _, rfl, .inl hH, fun l ws hl hw => new_lst sim (by rw [← keys_zip rr]; exact rds_keys hw) p l hl⟩
      · rename_i kvs e
        cases h
        obtain ⟨o, us, hH, rr⟩ := sim.at' _ a _ hn e
        exact ⟨a, _, rfl, .inr ⟨o, hH⟩, fun l ws hl hw => new_lst sim (by rw [← keys_zip rr]; exact rds_keys hw) p l hl⟩
      · cases h
  · cases h
section
variable {X : Cx} {a : Expr} {es : List Expr} {mA : AM} {pos p : Pos}
theorem p3_listD (hcalm : X.calm = true) (hg : Gl X "list") (hm : X.mg "list" = none) (ha : PA3 X (a :: es) mA) (he : starEach (a :: es) X.env = (false, eval a X.env) :: starEach es X.env := by rfl) (hpl : (backTo pos (starEach es X.env)).any (·.1) = false := by rfl) : PE3 X (.Call (.Name "list" p) (a :: es) [] pos) (eCall fListD mA) :=
  p3_callTy (call_listD hcalm) fn3_listD hg hm boot_list' ha (by decide) (by decide) he hpl
end
end L3
namespace L3
open PySem
theorem ex_some {α : Type} {x : α} {p : α → Prop} : (∃ d, (some (some x) : Option (Option α)) = some (some d) ∧ p d) = p x := by
  apply propext; constructor
  · rintro ⟨d, h, q⟩; cases h; exact q
  · exact fun q => ⟨x, rfl, q⟩
theorem ex_some1 {α : Type} {x : α} {p : α → Prop} : (∃ d, (some x : Option α) = some d ∧ p d) = p x := by
  apply propext; constructor
  · rintro ⟨d, h, q⟩; cases h; exact q
  · exact fun q => ⟨x, rfl, q⟩
theorem ex_bl {b : Bool} {p : Bool → Prop} : (∃ k, D.bl b = D.bl k ∧ p k) = p b := by
  apply propext; constructor
  · rintro ⟨d, h, q⟩; cases h; exact q
  · exact fun q => ⟨b, rfl, q⟩
theorem ex_int {b : Int} {p : Int → Prop} : (∃ k, ([D.int b] : List D) = [D.int k] ∧ p k) = p b := by
  apply propext; constructor
  · rintro ⟨d, h, q⟩; cases h; exact q
  · exact fun q => ⟨b, rfl, q⟩
theorem at2_0 {α : Type} {x y : α} : L2.atI [x, y] 0 = some x := rfl
theorem at2_1 {α : Type} {x y : α} : L2.atI [x, y] 1 = some y := rfl
theorem at3_0 {α : Type} {x y z : α} : L2.atI [x, y, z] 0 = some x := rfl
theorem at3_1 {α : Type} {x y z : α} : L2.atI [x, y, z] 1 = some y := rfl
theorem at3_2 {α : Type} {x y z : α} : L2.atI [x, y, z] 2 = some z := rfl
theorem lstOf_last {S : Sto} {xs : List D} : lstOf (S ++ [.lst xs]) S.length = some xs := by unfold lstOf; rw [get_self]
theorem set_last {α : Type} (l : List α) (x y : α) : (l ++ [x]).set l.length y = l ++ [y] := by
  induction l with
  | nil => rfl
  | cons z r ih => show z :: (r ++ [x]).set r.length y = _; rw [ih]; rfl
theorem atI_in {α : Type} (xs : List α) (i : Int) (h0 : 0 ≤ i) (h1 : i < xs.length) : ∃ x, L2.atI xs i = some x ∧ x ∈ xs := by
  have hl : i.toNat < xs.length := by omega
  refine ⟨xs[i.toNat], ?_, List.getElem_mem hl⟩
  unfold L2.atI L2.ixN
  rw [if_pos h0, if_pos h1]
  simp [hl]
theorem atI_get {α : Type} {xs : List α} {i : Nat} {x : α} (h : xs[i]? = some x) : L2.atI xs (i : Int) = some x := by
  have hl := (List.getElem?_eq_some_iff.mp h).1
  unfold L2.atI L2.ixN
  rw [if_pos (by omega), if_pos (by omega)]
  simpa using h
section
variable {S : Sto} {Q : D → Sto → Prop} {l : Lo} {QG : Lo → Sto → Prop}
theorem wo_times {i j : Int} : Wo (dTimes (.int i) (.int j) S) Q = (((-(2 ^ 64) < i ∧ i < 2 ^ 64) ∨ (-(2 ^ 64) < j ∧ j < 2 ^ 64)) ∧ Q (.int (i * j)) S) := wo_ite
theorem wo_none : Wo none Q = False := by unfold Wo; simp
theorem wo_ixAT {xs : List D} {i : Int} : Wo (dIxA (.tup xs) (.int i) S) Q = ∃ v, L2.atI xs i = some v ∧ Q v S := by
  have e : dIxA (.tup xs) (.int i) S = dIx (.tup xs) (.int i) S := by
    unfold dIxA
    cases h : dIx (.tup xs) (.int i) S with
    | some v => rfl
    | none => rfl
  rw [e, wo_ixT]
theorem wo_ixAL {k : Nat} {i : Int} : Wo (dIxA (.ref k) (.int i) S) Q = ∃ xs, lstOf S k = some xs ∧ ∃ v, L2.atI xs i = some v ∧ Q v S := by
  have e : dIxA (.ref k) (.int i) S = dIx (.ref k) (.int i) S := by
    unfold dIxA
    cases h : dIx (.ref k) (.int i) S with
    | some v => rfl
    | none => rfl
  rw [e, wo_ixL]
theorem wo_ixAS {z : Str} {i : Int} : Wo (dIxA (.str z) (.int i) S) Q = (z.length ≤ sizeLine ∧ ∃ c, L2.atI z.cps.toList i = some c ∧ Q (.str ⟨#[c]⟩) S) := by
  show Wo (if z.length ≤ sizeLine then (L2.atI z.cps.toList i).bind fun c => some (.str ⟨#[c]⟩, S) else none) Q = _
  by_cases h : z.length ≤ sizeLine
  · rw [if_pos h, wo_bind]; simp only [wo_some, h, true_and]
  · rw [if_neg h, wo_none]; simp [h]
theorem wo_lenAL {k : Nat} : Wo (fLenA [.ref k] S) Q = ∃ xs, lstOf S k = some xs ∧ Q (.int xs.length) S := wo_lenL
theorem wo_lenAT {xs : List D} : Wo (fLenA [.tup xs] S) Q = Q (.int xs.length) S := wo_lenT
theorem wo_lenAS {z : Str} : Wo (fLenA [.str z] S) Q = (z.length ≤ sizeLine ∧ Q (.int z.length) S) := wo_ite
theorem wo_str {i : Int} : Wo (fStr [.int i] S) Q = (i.natAbs.log2 < 1920 ∧ Q (.str (toString i)) S) := wo_ite
theorem wo_eqSt {i j : Str} : Wo (dEq (.str i) (.str j) S) Q = Q (.bl (decide (i = j))) S := wo_some
theorem wo_neB {i j : Bool} : Wo (dNe (.bl i) (.bl j) S) Q = Q (.bl (!decide (i = j))) S := wo_some
theorem wo_neI {i j : Int} : Wo (dNe (.int i) (.int j) S) Q = Q (.bl (!decide (i = j))) S := wo_some
theorem we_methS {f : D → List D → Sto → Option (D × Sto)} {a : EM} {r : AM} : We (eMethS f a r) l S Q = We a l S fun x S1 => recvS x = some () ∧ Wa r l S1 fun ys S2 => Wo (f x ys S2) Q := by
  apply propext
  constructor
  · rintro ⟨v, S', h, q⟩
    obtain ⟨⟨x, S1⟩, h1, h⟩ := bnd h
    obtain ⟨_, h2, h⟩ := bnd h
    obtain ⟨⟨y, S2⟩, h3, h⟩ := bnd h
    exact ⟨x, S1, h1, h2, y, S2, h3, v, S', h, q⟩
  · rintro ⟨x, S1, h1, h2, y, S2, h3, v, S', h, q⟩
    refine ⟨v, S', ?_, q⟩
    unfold eMethS; rw [h1]; show (recvS x).bind _ = _; rw [h2]; show (r l S1).bind _ = _; rw [h3]; exact h
theorem wg_dput {o i : EM} {v : D} : Wg (gDPut o i v l S) QG = We o l S fun x S1 => We i l S1 fun y S2 => ∃ S', putD x y v S2 = some S' ∧ QG l S' := by
  apply propext
  constructor
  · rintro ⟨l', S', h, q⟩
    obtain ⟨⟨x, S1⟩, h1, h⟩ := bnd h
    obtain ⟨⟨y, S2⟩, h2, h⟩ := bnd h
    obtain ⟨S3, h3, h⟩ := bnd h
    cases h
    exact ⟨x, S1, h1, y, S2, h2, _, h3, q⟩
  · rintro ⟨x, S1, h1, y, S2, h2, S3, h3, q⟩
    refine ⟨l, S3, ?_, q⟩
    unfold gDPut; rw [h1]; show (i l S1).bind _ = _; rw [h2]; show (putD x y v S2).bind _ = _; rw [h3]; rfl
theorem wo_isI_bl {U : String} {b : Bool} : Wo (fIsI U (.bl b) S) Q = Q (.bl (isI "bool" U)) S := wo_some
theorem wo_isI_int {U : String} {b : Int} : Wo (fIsI U (.int b) S) Q = Q (.bl (isI "int" U)) S := wo_some
theorem wo_isI_str {U : String} {b : Str} : Wo (fIsI U (.str b) S) Q = Q (.bl (isI "str" U)) S := wo_some
theorem wo_isI_tup {U : String} {b : List D} : Wo (fIsI U (.tup b) S) Q = Q (.bl (isI "tuple" U)) S := wo_some
theorem wo_isI_non {U : String} : Wo (fIsI U .non S) Q = Q (.bl (isI "NoneType" U)) S := wo_some
theorem isI_same {U : String} : isI U U = true := by unfold isI; simp
theorem wo_neNil {n m : Nat} {xs : List D} (h1 : S[n]? = some (.lst xs)) (h2 : S[m]? = some (.lst [])) : Wo (dNeNil (.ref n) (.ref m) S) Q = Q (.bl (!xs.isEmpty)) S := by
  show Wo (match S[n]?, S[m]? with | some (.lst xs), some (.lst []) => some (.bl (!xs.isEmpty), S) | _, _ => none) Q = _
  rw [h1, h2]; exact wo_some
end
def Gr (S0 S : Sto) : Prop := ∃ ex, S = S0 ++ ex
theorem Gr.refl (S : Sto) : Gr S S := ⟨[], by rw [List.append_nil]⟩
theorem Gr.trans {A B C : Sto} (h : Gr A B) (g : Gr B C) : Gr A C := by obtain ⟨x, rfl⟩ := h; obtain ⟨y, rfl⟩ := g; exact ⟨x ++ y, by rw [List.append_assoc]⟩
theorem Gr.push {A B : Sto} (h : Gr A B) (o : Ob) : Gr A (B ++ [o]) := h.trans ⟨[o], rfl⟩
theorem Gr.get {A B : Sto} {n : Nat} {o : Ob} (h : Gr A B) (e : A[n]? = some o) : B[n]? = some o := by
  obtain ⟨x, rfl⟩ := h
  rw [List.getElem?_append_left (List.getElem?_eq_some_iff.mp e).1]; exact e
theorem Gr.lst {A B : Sto} {n : Nat} {xs : List D} (h : Gr A B) (e : lstOf A n = some xs) : lstOf B n = some xs := by
  unfold lstOf at e ⊢
  cases q : A[n]? with
  | none => rw [q] at e; cases e
  | some o => rw [h.get q]; rw [q] at e; exact e
section
variable {it : ItM} {im : IM} {ixs : List (Option Nat)} {g : GM} {t : TM} {e : EM} {l : Lo} {S S1 : Sto} {Q : D → Sto → Prop} {k : Nat}
theorem compG_inv (xs : List D) (R : Nat → List D → Lo → Sto → Prop) (hit : ∀ i acc l S, R i acc l S → it i S = some xs[i]?)
    (step : ∀ (i : Nat) x acc l S, xs[i]? = some x → R i acc l S → Wg (g x l S) fun l1 S1 => Wt t l1 S1 fun b S2 => if b = true then We e l1 S2 fun v S3 => R (i + 1) (acc ++ [v]) l1 S3 else R (i + 1) acc l1 S2) :
    ∀ (n i : Nat) (acc : List D) (l : Lo) (S : Sto), n + i = xs.length → R i acc l S → ∃ rest S' l', compG it g t e (n + 1) i l S = some (rest, S') ∧ R xs.length (acc ++ rest) l' S'
  | 0, i, acc, l, S, hn, h => by
    have hi : i = xs.length := by omega
    have e0 := hit i acc l S h
    rw [List.getElem?_eq_none_iff.mpr (by omega)] at e0
    refine ⟨[], S, l, ?_, by rw [List.append_nil, ← hi]; exact h⟩
    unfold compG; rw [e0]; rfl
  | n + 1, i, acc, l, S, hn, h => by
    have hi : i < xs.length := by omega
    have e0 := hit i acc l S h
    rw [List.getElem?_eq_getElem hi] at e0
    obtain ⟨l1, S1, e1, b, S2, e2, q⟩ := step i _ acc l S (List.getElem?_eq_getElem hi) h
    cases b with
    | true =>
      obtain ⟨v, S3, e3, q⟩ := q
      obtain ⟨rest, S', l', e4, q⟩ := compG_inv xs R hit step n (i + 1) (acc ++ [v]) l1 S3 (by omega) q
      refine ⟨v :: rest, S', l', ?_, by rw [List.append_assoc] at q; exact q⟩
      unfold compG; rw [e0]; show (g _ l S).bind _ = _; rw [e1]; show (t l1 S1).bind _ = _; rw [e2]
      show (e l1 S2).bind _ = _; rw [e3]; show (compG it g t e (n + 1) (i + 1) l1 S3).bind _ = _; rw [e4]; rfl
    | false =>
      obtain ⟨rest, S', l', e4, q⟩ := compG_inv xs R hit step n (i + 1) acc l1 S2 (by omega) q
      refine ⟨rest, S', l', ?_, q⟩
      unfold compG; rw [e0]; show (g _ l S).bind _ = _; rw [e1]; show (t l1 S1).bind _ = _; rw [e2]
      exact e4
theorem we_comp (xs : List D) (R : Nat → List D → Lo → Sto → Prop) (him : im l S = some (it, xs.length + 1, S1)) (h0 : R 0 [] (srcL ixs l) S1) (hit : ∀ i acc l S, R i acc l S → it i S = some xs[i]?)
    (step : ∀ (i : Nat) x acc l S, xs[i]? = some x → R i acc l S → Wg (g x l S) fun l1 S1 => Wt t l1 S1 fun b S2 => if b = true then We e l1 S2 fun v S3 => R (i + 1) (acc ++ [v]) l1 S3 else R (i + 1) acc l1 S2)
    (fin : ∀ acc l' S', R xs.length acc l' S' → acc.length ≤ sizeLine ∧ Q (.ref S'.length) (S' ++ [.lst acc])) : We (eComp im ixs g t e) l S Q := by
  obtain ⟨rest, S', l', h1, h2⟩ := compG_inv (it := it) (g := g) (t := t) (e := e) xs R hit step xs.length 0 [] (srcL ixs l) S1 rfl h0
  obtain ⟨hz, q⟩ := fin rest l' S' h2
  refine ⟨_, _, ?_, q⟩
  unfold eComp; rw [him]; show (compG it g t e (xs.length + 1) 0 (srcL ixs l) S1).bind _ = _; rw [h1]; show (if _ then _ else _) = _; rw [if_pos hz]
theorem we_compM (xs : List D) (F : D → D) (P : Sto → Prop) (L : Lo → Prop) (him : im l S = some (it, xs.length + 1, S1)) (h0 : P S1) (l0 : L (srcL ixs l)) (hit : ∀ i S, P S → it i S = some xs[i]?) (hz : xs.length ≤ sizeLine)
    (step : ∀ x l S, x ∈ xs → L l → P S → Wg (g x l S) fun l1 S2 => P S2 ∧ L l1 ∧ We e l1 S2 fun v S3 => v = F x ∧ P S3)
    (fin : ∀ S', P S' → Q (.ref S'.length) (S' ++ [.lst (xs.map F)])) : We (eComp im ixs g tTrue e) l S Q := by
  refine we_comp xs (fun i acc l S => acc = (xs.take i).map F ∧ L l ∧ P S) him ⟨rfl, l0, h0⟩ (fun i acc l S h => hit i S h.2.2) ?_ ?_
  · rintro i x acc l S hx ⟨rfl, hl, hp⟩
    obtain ⟨l1, S2, e1, p1, q1, v, S3, e2, rfl, p3⟩ := step x l S (List.mem_of_getElem? hx) hl hp
    refine ⟨l1, S2, e1, ?_⟩
    dsimp only
    rw [wt_true, if_pos rfl]
    refine ⟨_, S3, e2, ?_, q1, p3⟩
    rw [List.take_add_one, hx]; simp
  · rintro acc l' S' ⟨rfl, hl, hp⟩
    rw [List.take_length]
    exact ⟨by rw [List.length_map]; exact hz, fin S' hp⟩
theorem we_compV (xs : List D) (V : D → Prop) (P : Nat → Sto → Prop) (L : Lo → Prop) (him : im l S = some (it, xs.length + 1, S1)) (h0 : P 0 S1) (l0 : L (srcL ixs l)) (hit : ∀ i S, P i S → it i S = some xs[i]?) (hz : xs.length ≤ sizeLine)
    (step : ∀ (i : Nat) x l S, xs[i]? = some x → L l → P i S → Wg (g x l S) fun l1 S2 => L l1 ∧ We e l1 S2 fun v S3 => V v ∧ P (i + 1) S3)
    (fin : ∀ vs S', vs.length = xs.length → (∀ v ∈ vs, V v) → P xs.length S' → Q (.ref S'.length) (S' ++ [.lst vs])) : We (eComp im ixs g tTrue e) l S Q := by
  refine we_comp xs (fun i acc l S => acc.length = i ∧ (∀ v ∈ acc, V v) ∧ L l ∧ P i S) him ⟨rfl, (fun v hv => by cases hv), l0, h0⟩ (fun i acc l S h => hit i S h.2.2.2) ?_ ?_
  · rintro i x acc l S hx ⟨hl, hv, hL, hp⟩
    obtain ⟨l1, S2, e1, q1, v, S3, e2, hv2, p3⟩ := step i x l S hx hL hp
    refine ⟨l1, S2, e1, ?_⟩
    dsimp only
    rw [wt_true, if_pos rfl]
    refine ⟨v, S3, e2, by simp [hl], fun u hu => ?_, q1, p3⟩
    rcases List.mem_append.mp hu with hu | hu
    · exact hv u hu
    · rw [List.mem_singleton.mp hu]; exact hv2
  · rintro acc l' S' ⟨hl, hv, hL, hp⟩
    exact ⟨by rw [hl]; exact hz, fin acc S' hl hv hp⟩
end
theorem rng_ok {as : AM} {l : Lo} {S S1 : Sto} {j : Int} (h : as l S = some ([.int j], S1)) (hz : -(2 ^ 62) ≤ j ∧ j < 2 ^ 62) : rng1 as l S = some ((0, j.toNat), S1) := by
  unfold rng1; rw [h]; simp only [Option.bind_some]; rw [if_pos hz]
theorem rng_im {as : AM} {l : Lo} {S S1 : Sto} {n : Nat} (h : as l S = some ([.int (n : Int)], S1)) (hn : n < 1000000000) : iRng (rng1 as) l S = some (itX (rngD 0 n), (rngD 0 n).length + 1, S1) := by
  have := rng_ok h ⟨by omega, by omega⟩
  unfold iRng; rw [this]; simp only [Option.bind_some, Int.toNat_natCast, rngD_len]
def enl (xs : List D) : List D := xs.mapIdx fun i x => .tup [.int i, x]
theorem enl_len (xs : List D) : (enl xs).length = xs.length := by simp [enl]
theorem enl_get (xs : List D) (i : Nat) : (enl xs)[i]? = (xs[i]?).map fun x => .tup [.int i, x] := by simp [enl, List.getElem?_mapIdx]
theorem itN_enl {xs : List D} {i : Nat} {S : Sto} : itN (itX xs) i S = some (enl xs)[i]? := by
  rw [enl_get]; rfl
theorem enT_im {as : AM} {l : Lo} {S S1 : Sto} {xs : List D} (h : as l S = some ([.tup xs], S1)) : iEnumA as l S = some (itN (itX xs), (enl xs).length + 1, S1) := by
  unfold iEnumA; rw [h, enl_len]; rfl
theorem valT_im {e : EM} {l : Lo} {S S1 : Sto} {xs : List D} (h : e l S = some (.tup xs, S1)) : iVal e l S = some (itX xs, xs.length + 1, S1) := by
  unfold iVal; rw [h]; rfl
theorem valL_im {e : EM} {l : Lo} {S S1 : Sto} {n : Nat} {xs : List D} (h : e l S = some (.ref n, S1)) (hn : lstOf S1 n = some xs) : iVal e l S = some (itL n, xs.length + 1, S1) := by
  unfold iVal; rw [h]; show (lstOf S1 n).bind _ = _; rw [hn]; rfl
theorem itL_at {n i : Nat} {S : Sto} {xs : List D} (hn : lstOf S n = some xs) : itL n i S = some xs[i]? := by unfold itL; rw [hn]; rfl
section
variable {g : GM} {b : SM}
theorem forX_out (P : Nat → Lo → Sto → Prop) (O : D → Sto → Prop) : ∀ (xs : List D) (k : Nat) (l : Lo) (S : Sto), P k l S →
    (∀ (i : Nat) x l S, xs[i]? = some x → P (k + i) l S → Wg (g x l S) fun l1 S1 => Ws b l1 S1 fun f l2 S2 => ((f = .nx ∨ f = .ct) ∧ P (k + i + 1) l2 S2) ∨ ∃ d, f = .rt d ∧ O d S2) →
    Wr (forX g b xs l S) fun f l' S' => (f = .nx ∧ P (k + xs.length) l' S') ∨ ∃ d, f = .rt d ∧ O d S'
  | [], k, l, S, h0, _ => ⟨_, _, _, rfl, .inl ⟨rfl, h0⟩⟩
  | x :: xs, k, l, S, h0, hs => by
    obtain ⟨l1, S1, e1, f, l2, S2, e2, q⟩ := hs 0 x l S rfl h0
    rcases q with ⟨hf, h1⟩ | ⟨d, rfl, hd⟩
    · have ih := forX_out P O xs (k + 1) l2 S2 h1 fun i y l S hy hp => by
        have := hs (i + 1) y l S (by simpa using hy) (by rw [show k + (i + 1) = k + 1 + i by omega]; exact hp)
        rw [show k + (i + 1) + 1 = k + 1 + i + 1 by omega] at this
        exact this
      obtain ⟨f', l', S', e3, q1⟩ := ih
      refine ⟨f', l', S', ?_, by rw [List.length_cons, show k + (xs.length + 1) = k + 1 + xs.length by omega]; exact q1⟩
      unfold forX
      rw [e1]; show (b l1 S1).bind _ = _; rw [e2]
      rcases hf with rfl | rfl <;> exact e3
    · refine ⟨_, l2, S2, ?_, .inr ⟨d, rfl, hd⟩⟩
      unfold forX
      rw [e1]; show (b l1 S1).bind _ = _; rw [e2]; rfl
theorem ws_rng (P : Nat → Lo → Sto → Prop) (O : D → Sto → Prop) {as : AM} {l : Lo} {S S1 : Sto} {n : Nat} {QS : Fl → Lo → Sto → Prop} (h : as l S = some ([.int (n : Int)], S1)) (hn : n < 1000000000) (h0 : P 0 l S1)
    (step : ∀ (i : Nat) l S, i < n → P i l S → Wg (g (.int i) l S) fun l1 S1 => Ws b l1 S1 fun f l2 S2 => ((f = .nx ∨ f = .ct) ∧ P (i + 1) l2 S2) ∨ ∃ d, f = .rt d ∧ O d S2)
    (fin : ∀ l' S', P n l' S' → QS .nx l' S') (out : ∀ d l' S', O d S' → QS (.rt d) l' S') : Ws (sForR (rng1 as) g b) l S QS := by
  rw [ws_forR]
  refine ⟨_, _, h, (n : Int), rfl, ⟨by omega, by omega⟩, ?_⟩
  rw [Int.toNat_natCast]
  refine (forX_out P O (rngD 0 n) 0 l S1 h0 ?_).mono ?_
  · intro i x l S hx hp
    obtain ⟨hi, rfl⟩ := rngD_get hx
    rw [Nat.zero_add] at hp
    have := step i l S hi hp
    rw [Int.zero_add, Nat.zero_add]
    exact this
  · rintro f l' S' (⟨rfl, hp⟩ | ⟨d, rfl, hd⟩)
    · rw [rngD_len, Nat.zero_add] at hp; exact fin l' S' hp
    · exact out d l' S' hd
end
end L3
namespace L3
open PySem
section
variable {S : Sto} {Q : D → Sto → Prop} {l : Lo}
theorem wo_plusAI {i j : Int} : Wo (dPlusA (.int i) (.int j) S) Q = Q (.int (i + j)) S := wo_some
theorem wo_plusAT {xs ys : List D} : Wo (dPlusA (.tup xs) (.tup ys) S) Q = (xs.length + ys.length ≤ sizeLine ∧ Q (.tup (xs ++ ys)) S) := wo_ite
theorem wo_plusAL {n m : Nat} {xs ys : List D} (h1 : S[n]? = some (.lst xs)) (h2 : S[m]? = some (.lst ys)) : Wo (dPlusA (.ref n) (.ref m) S) Q = (xs.length + ys.length ≤ sizeLine ∧ Q (.ref S.length) (S ++ [.lst (xs ++ ys)])) := by
  show Wo (match S[n]?, S[m]? with | some (.lst xs), some (.lst ys) => if xs.length + ys.length ≤ sizeLine then some (.ref S.length, S ++ [.lst (xs ++ ys)]) else none | _, _ => none) Q = _
  rw [h1, h2]; exact wo_ite
theorem wo_intAB {k : Bool} : Wo (fIntA [.bl k] S) Q = Q (.int (if k then 1 else 0)) S := wo_some
def Wp (o : OM) (l : Lo) (S : Sto) (Q : Option Int → Sto → Prop) : Prop := ∃ v S', o l S = some (v, S') ∧ Q v S'
theorem wp_none {Q : Option Int → Sto → Prop} : Wp oNone l S Q = Q none S := by
  apply propext
  exact ⟨fun ⟨v, S', h, q⟩ => by cases h; exact q, fun q => ⟨_, _, rfl, q⟩⟩
theorem wp_some {e : EM} {Q : Option Int → Sto → Prop} : Wp (oSome e) l S Q = We e l S fun x S1 => ∃ i, x = .int i ∧ Q (some i) S1 := by
  apply propext
  constructor
  · rintro ⟨v, S', h, q⟩
    obtain ⟨⟨x, S1⟩, h1, h⟩ := bnd h
    refine ⟨x, S1, h1, ?_⟩
    cases x with
    | int i => cases h; exact ⟨i, rfl, q⟩
    | _ => cases h
  · rintro ⟨x, S1, h1, i, rfl, q⟩
    exact ⟨_, S1, by unfold oSome; rw [h1]; rfl, q⟩
theorem ex_int1 {b : Int} {p : Int → Prop} : (∃ k, D.int b = D.int k ∧ p k) = p b := by
  apply propext; constructor
  · rintro ⟨d, h, q⟩; cases h; exact q
  · exact fun q => ⟨b, rfl, q⟩
def slA (x : D) (a b : Option Int) (S : Sto) : Option (D × Sto) := match x with
  | .tup xs => some (.tup (cutD xs a b), S)
  | .ref n => (lstOf S n).bind fun xs => some (.ref S.length, S ++ [.lst (cutD xs a b)])
  | .str z => if z.length ≤ sizeLine then some (.str (Txt.slice z a b), S) else none
  | _ => none
theorem we_slA {m : EM} {lo hi : OM} : We (eSlA m lo hi) l S Q = We m l S fun x S1 => Wp lo l S1 fun a S2 => Wp hi l S2 fun b S3 => Wo (slA x a b S3) Q := by
  apply propext
  constructor
  · rintro ⟨v, S', h, q⟩
    obtain ⟨⟨x, S1⟩, h1, h⟩ := bnd h
    obtain ⟨⟨a, S2⟩, h2, h⟩ := bnd h
    obtain ⟨⟨b, S3⟩, h3, h⟩ := bnd h
    exact ⟨x, S1, h1, a, S2, h2, b, S3, h3, v, S', h, q⟩
  · rintro ⟨x, S1, h1, a, S2, h2, b, S3, h3, v, S', h, q⟩
    refine ⟨v, S', ?_, q⟩
    unfold eSlA; rw [h1]; show (lo l S1).bind _ = _; rw [h2]; show (hi l S2).bind _ = _; rw [h3]; exact h
theorem wo_slT {xs : List D} {a b : Option Int} : Wo (slA (.tup xs) a b S) Q = Q (.tup (cutD xs a b)) S := wo_some
theorem wo_slL {n : Nat} {xs : List D} {a b : Option Int} (h : lstOf S n = some xs) : Wo (slA (.ref n) a b S) Q = Q (.ref S.length) (S ++ [.lst (cutD xs a b)]) := by
  show Wo ((lstOf S n).bind fun xs => some (.ref S.length, S ++ [.lst (cutD xs a b)])) Q = _
  rw [h]; exact wo_some
theorem cutD_to (xs : List D) (k : Nat) : cutD xs none (some (k : Int)) = xs.take k := by
  unfold cutD; rw [HT.sIx_none, HT.sIx_nat, List.drop_zero, Nat.sub_zero]
  by_cases h : k ≤ xs.length
  · rw [Nat.min_eq_left h]
  · rw [Nat.min_eq_right (by omega), List.take_length, List.take_of_length_le (by omega)]
end
section
variable {it : ItM} {im : IM} {g : GM} {b : SM}
theorem forI_out (xs : List D) (P : Nat → Lo → Sto → Prop) (O : D → Sto → Prop) (hit : ∀ i l S, P i l S → it i S = some xs[i]?)
    (step : ∀ (i : Nat) x l S, xs[i]? = some x → P i l S → Wg (g x l S) fun l1 S1 => Ws b l1 S1 fun f l2 S2 => ((f = .nx ∨ f = .ct) ∧ P (i + 1) l2 S2) ∨ ∃ d, f = .rt d ∧ O d S2) :
    ∀ (n i : Nat) (l : Lo) (S : Sto), n + i = xs.length → P i l S → Wr (forI it g b (n + 1) i l S) fun f l' S' => (f = .nx ∧ P xs.length l' S') ∨ ∃ d, f = .rt d ∧ O d S'
  | 0, i, l, S, hn, h => by
    have hi : i = xs.length := by omega
    have e0 := hit i l S h
    rw [List.getElem?_eq_none_iff.mpr (by omega)] at e0
    refine ⟨.nx, l, S, ?_, .inl ⟨rfl, by rw [← hi]; exact h⟩⟩
    unfold forI; rw [e0]; rfl
  | n + 1, i, l, S, hn, h => by
    have hi : i < xs.length := by omega
    have e0 := hit i l S h
    rw [List.getElem?_eq_getElem hi] at e0
    obtain ⟨l1, S1, e1, f, l2, S2, e2, q⟩ := step i _ l S (List.getElem?_eq_getElem hi) h
    rcases q with ⟨hf, h1⟩ | ⟨d, rfl, hd⟩
    · obtain ⟨f', l', S', e3, q1⟩ := forI_out xs P O hit step n (i + 1) l2 S2 (by omega) h1
      refine ⟨f', l', S', ?_, q1⟩
      unfold forI; rw [e0]; show (g _ l S).bind _ = _; rw [e1]; show (b l1 S1).bind _ = _; rw [e2]
      rcases hf with rfl | rfl <;> exact e3
    · refine ⟨_, l2, S2, ?_, .inr ⟨d, rfl, hd⟩⟩
      unfold forI; rw [e0]; show (g _ l S).bind _ = _; rw [e1]; show (b l1 S1).bind _ = _; rw [e2]; rfl
theorem ws_forI (xs : List D) (P : Nat → Lo → Sto → Prop) (O : D → Sto → Prop) {l : Lo} {S S1 : Sto} {QS : Fl → Lo → Sto → Prop} (him : im l S = some (it, xs.length + 1, S1)) (h0 : P 0 l S1) (hit : ∀ i l S, P i l S → it i S = some xs[i]?)
    (step : ∀ (i : Nat) x l S, xs[i]? = some x → P i l S → Wg (g x l S) fun l1 S1 => Ws b l1 S1 fun f l2 S2 => ((f = .nx ∨ f = .ct) ∧ P (i + 1) l2 S2) ∨ ∃ d, f = .rt d ∧ O d S2)
    (fin : ∀ l' S', P xs.length l' S' → QS .nx l' S') (out : ∀ d l' S', O d S' → QS (.rt d) l' S') : Ws (sForI im g b) l S QS := by
  obtain ⟨f, l', S', e, q⟩ := forI_out (it := it) (g := g) (b := b) xs P O hit step xs.length 0 l S1 rfl h0
  refine ⟨f, l', S', by unfold sForI; rw [him]; exact e, ?_⟩
  rcases q with ⟨rfl, h⟩ | ⟨d, rfl, h⟩
  · exact fin l' S' h
  · exact out d l' S' h
theorem ws_forT' {e : EM} (xs : List D) (P : Nat → Lo → Sto → Prop) (O : D → Sto → Prop) {l : Lo} {S S1 : Sto} {QS : Fl → Lo → Sto → Prop} (he : e l S = some (.tup xs, S1)) (h0 : P 0 l S1)
    (step : ∀ (i : Nat) x l S, xs[i]? = some x → P i l S → Wg (g x l S) fun l1 S1 => Ws b l1 S1 fun f l2 S2 => ((f = .nx ∨ f = .ct) ∧ P (i + 1) l2 S2) ∨ ∃ d, f = .rt d ∧ O d S2)
    (fin : ∀ l' S', P xs.length l' S' → QS .nx l' S') (out : ∀ d l' S', O d S' → QS (.rt d) l' S') : Ws (sFor e g b) l S QS := by
  rw [ws_forT]
  refine ⟨_, _, he, ?_⟩
  refine (forX_out P O xs 0 l S1 h0 ?_).mono ?_
  · intro i x l S hx hp
    rw [Nat.zero_add] at hp ⊢
    exact step i x l S hx hp
  · rintro f l' S' (⟨rfl, hp⟩ | ⟨d, rfl, hd⟩)
    · rw [Nat.zero_add] at hp; exact fin l' S' hp
    · exact out d l' S' hd
theorem forL_out {n : Nat} (xs : List D) (P : Nat → Lo → Sto → Prop) (O : D → Sto → Prop) (hit : ∀ i l S, P i l S → lstOf S n = some xs)
    (step : ∀ (i : Nat) x l S, xs[i]? = some x → P i l S → Wg (g x l S) fun l1 S1 => Ws b l1 S1 fun f l2 S2 => ((f = .nx ∨ f = .ct) ∧ P (i + 1) l2 S2) ∨ ∃ d, f = .rt d ∧ O d S2) :
    ∀ (k i : Nat) (l : Lo) (S : Sto), k + i = xs.length → P i l S → Wr (forL g b n (k + 1) i l S) fun f l' S' => (f = .nx ∧ P xs.length l' S') ∨ ∃ d, f = .rt d ∧ O d S'
  | 0, i, l, S, hn, h => by
    have hi : i = xs.length := by omega
    refine ⟨.nx, l, S, ?_, .inl ⟨rfl, by rw [← hi]; exact h⟩⟩
    unfold forL; rw [hit i l S h]; simp only [Option.bind_some]; rw [List.getElem?_eq_none_iff.mpr (by omega)]
  | k + 1, i, l, S, hn, h => by
    have hi : i < xs.length := by omega
    obtain ⟨l1, S1, e1, f, l2, S2, e2, q⟩ := step i _ l S (List.getElem?_eq_getElem hi) h
    rcases q with ⟨hf, h1⟩ | ⟨d, rfl, hd⟩
    · obtain ⟨f', l', S', e3, q1⟩ := forL_out xs P O hit step k (i + 1) l2 S2 (by omega) h1
      refine ⟨f', l', S', ?_, q1⟩
      unfold forL; rw [hit i l S h]; simp only [Option.bind_some]; rw [List.getElem?_eq_getElem hi]; show (g _ l S).bind _ = _; rw [e1]; show (b l1 S1).bind _ = _; rw [e2]
      rcases hf with rfl | rfl <;> exact e3
    · refine ⟨_, l2, S2, ?_, .inr ⟨d, rfl, hd⟩⟩
      unfold forL; rw [hit i l S h]; simp only [Option.bind_some]; rw [List.getElem?_eq_getElem hi]; show (g _ l S).bind _ = _; rw [e1]; show (b l1 S1).bind _ = _; rw [e2]; rfl
theorem ws_forLst {e : EM} {n : Nat} (xs : List D) (P : Nat → Lo → Sto → Prop) (O : D → Sto → Prop) {l : Lo} {S S1 : Sto} {QS : Fl → Lo → Sto → Prop} (he : e l S = some (.ref n, S1)) (h0 : P 0 l S1) (hit : ∀ i l S, P i l S → lstOf S n = some xs)
    (step : ∀ (i : Nat) x l S, xs[i]? = some x → P i l S → Wg (g x l S) fun l1 S1 => Ws b l1 S1 fun f l2 S2 => ((f = .nx ∨ f = .ct) ∧ P (i + 1) l2 S2) ∨ ∃ d, f = .rt d ∧ O d S2)
    (fin : ∀ l' S', P xs.length l' S' → QS .nx l' S') (out : ∀ d l' S', O d S' → QS (.rt d) l' S') : Ws (sFor e g b) l S QS := by
  rw [ws_forT]
  refine ⟨_, _, he, ?_⟩
  simp only
  rw [hit 0 l S1 h0]; simp only [Option.bind_some]
  refine (forL_out xs P O hit step xs.length 0 l S1 rfl h0).mono ?_
  rintro f l' S' (⟨rfl, hp⟩ | ⟨d, rfl, hd⟩)
  · exact fin l' S' hp
  · exact out d l' S' hd
end
end L3
namespace L3
open PySem
theorem sum_le (B : Nat) : ∀ ts : List Str, (∀ t ∈ ts, t.length ≤ B) → (ts.map (·.length)).sum ≤ B * ts.length
  | [], _ => Nat.zero_le _
  | t :: ts, h => by
    have h1 := h t List.mem_cons_self
    have h2 := sum_le B ts fun x hx => h x (List.mem_cons_of_mem _ hx)
    simp only [List.map_cons, List.sum_cons, List.length_cons]
    rw [Nat.mul_add]; omega
theorem shownAll_map (xs : List PyData) : PyData.shownAll xs = xs.map PyData.shown := by
  induction xs with
  | nil => rfl
  | cons x xs ih => unfold PyData.shownAll; rw [ih]; rfl
theorem tup_len (B : Nat) (xs : List PyData) (h : ∀ x ∈ xs, x.shown.length ≤ B) : (PyData.tuple xs).shown.length ≤ B * xs.length + 2 * xs.length + 3 := by
  show (tupleText (PyData.shownAll xs)).length ≤ _
  rw [shownAll_map]
  have h1 := tupleText_len_le (xs.map PyData.shown)
  have h2 := sum_le B (xs.map PyData.shown) fun t ht => by
    obtain ⟨p, hp, rfl⟩ := List.mem_map.mp ht
    exact h p hp
  simp only [List.length_map] at h1 h2
  omega
def Sh (S : Sto) (k B : Nat) (d : D) : Prop := ∃ p : PyData, p.shown.length ≤ B ∧ ∀ S', Gr S S' → pyOf S' k d = some p
theorem Sh.le {S : Sto} {k B B' : Nat} {d : D} (h : Sh S k B d) (hb : B ≤ B') : Sh S k B' d := let ⟨p, h1, h2⟩ := h; ⟨p, Nat.le_trans h1 hb, h2⟩
theorem sh_all {S : Sto} {k B : Nat} : ∀ (xs : List D), (∀ x ∈ xs, Sh S k B x) → ∃ ps : List PyData, ps.length = xs.length ∧ (∀ p ∈ ps, p.shown.length ≤ B) ∧ ∀ S', Gr S S' → pyAll S' k xs = some ps
  | [], _ => ⟨[], rfl, (fun p hp => by cases hp), fun ex _ => by unfold pyAll; rfl⟩
  | x :: xs, h => by
    obtain ⟨p, h1, h2⟩ := h x List.mem_cons_self
    obtain ⟨ps, h3, h4, h5⟩ := sh_all xs fun y hy => h y (List.mem_cons_of_mem _ hy)
    refine ⟨p :: ps, by simp [h3], fun q hq => ?_, fun ex g => ?_⟩
    · rcases List.mem_cons.mp hq with rfl | hq
      · exact h1
      · exact h4 q hq
    · unfold pyAll; rw [h2 ex g, h5 ex g]; rfl
theorem sh_tup {S : Sto} {k B n : Nat} {xs : List D} (h : ∀ x ∈ xs, Sh S k B x) (hn : xs.length ≤ n) : Sh S (k + 1) (B * n + 2 * n + 3) (.tup xs) := by
  obtain ⟨ps, h1, h2, h3⟩ := sh_all xs h
  refine ⟨.tuple ps, ?_, fun ex g => ?_⟩
  · have := tup_len B ps h2
    rw [h1] at this
    have h4 : B * xs.length ≤ B * n := Nat.mul_le_mul_left _ hn
    omega
  · unfold pyOf; rw [h3 ex g]; rfl
theorem small_log2 {n : Nat} (h : n < 1000000) : ((n : Nat) : Int).natAbs.log2 < 1920 := by
  by_cases hz : n = 0
  · subst hz; decide
  · have h1 : ((n : Nat) : Int).natAbs = n := by omega
    rw [h1]
    have h2 : n.log2 < 20 := (Nat.log2_lt hz).mpr (Nat.lt_of_lt_of_le h (by decide))
    omega
theorem sh_nat {S : Sto} {k n : Nat} (h : n < 1000000) : Sh S (k + 1) 10 (.int n) := by
  refine ⟨.int n, ?_, fun ex _ => by unfold pyOf; rw [if_pos (small_log2 h)]⟩
  show (PySem.Str.ofString (toString (n : Int))).length ≤ 10
  exact PySem.W.KT.len_num (by omega) (by omega)
theorem sh_non {S : Sto} {k : Nat} : Sh S (k + 1) 10 .non := ⟨.none, by decide +kernel, fun ex _ => by unfold pyOf; rfl⟩
theorem wo_repr_of {S : Sto} {x : D} {p : PyData} {Q : D → Sto → Prop} (h : pyOf S 140 x = some p) (hz : p.shown.length ≤ sizeLine) : Wo (fRepr [x] S) Q = Q (.str p.shown) S := by
  rw [wo_repr, h]
  apply propext
  constructor
  · rintro ⟨pd, e, _, q⟩; cases e; exact q
  · intro q; exact ⟨p, rfl, hz, q⟩
end L3
namespace L3
open PySem
section
variable {l : Lo} {S : Sto} {Q : D → Sto → Prop} {QG : Lo → Sto → Prop} {a b c : EM}
theorem we_fnc {x : Str} : We (eFnc x) l S Q = Q (.ref S.length) (S ++ [.fnc x]) := by
  apply propext
  exact ⟨fun ⟨v, S', h, q⟩ => by cases h; exact q, fun q => ⟨_, _, rfl, q⟩⟩
theorem we_dictT : We eDictT l S Q = Q (.ref S.length) (S ++ [.tdct []]) := by
  apply propext
  exact ⟨fun ⟨v, S', h, q⟩ => by cases h; exact q, fun q => ⟨_, _, rfl, q⟩⟩
theorem we_callV {tab : List (Str × FM)} {as : AM} : We (eCallV tab a as) l S Q = We a l S fun v S1 => ∃ x, fncOf S1 v = some x ∧ ∃ m, tab.lookup x = some m ∧ Wa as l S1 fun ys S2 => Wo (m ys S2) Q := by
  apply propext
  constructor
  · rintro ⟨v, S', h, q⟩
    obtain ⟨⟨x, S1⟩, h1, h⟩ := bnd h
    obtain ⟨n, h2, h⟩ := bnd h
    obtain ⟨m, h3, h⟩ := bnd h
    obtain ⟨⟨ys, S2⟩, h4, h⟩ := bnd h
    exact ⟨x, S1, h1, n, h2, m, h3, ys, S2, h4, v, S', h, q⟩
  · rintro ⟨x, S1, h1, n, h2, m, h3, ys, S2, h4, v, S', h, q⟩
    refine ⟨v, S', ?_, q⟩
    unfold eCallV; rw [h1]; show (fncOf S1 x).bind _ = _; rw [h2]; show (tab.lookup n).bind _ = _; rw [h3]; show (as l S1).bind _ = _; rw [h4]; exact h
theorem we_get1 : We (eGet1 a b) l S Q = We a l S fun x S1 => isDc S1 x = some () ∧ We b l S1 fun y S2 => ∃ r, dRd S2 x y = some r ∧ Q (r.getD .non) S2 := by
  apply propext
  constructor
  · rintro ⟨v, S', h, q⟩
    obtain ⟨⟨x, S1⟩, h1, h⟩ := bnd h
    obtain ⟨_, h2, h⟩ := bnd h
    obtain ⟨⟨y, S2⟩, h3, h⟩ := bnd h
    obtain ⟨r, h4, h⟩ := bnd h
    cases h
    exact ⟨x, S1, h1, h2, y, _, h3, r, h4, q⟩
  · rintro ⟨x, S1, h1, h2, y, S2, h3, r, h4, q⟩
    refine ⟨_, _, ?_, q⟩
    unfold eGet1; rw [h1]; show (isDc S1 x).bind _ = _; rw [h2]; show (b l S1).bind _ = _; rw [h3]; show (dRd S2 x y).bind _ = _; rw [h4]; rfl
theorem we_get2 : We (eGet2 a b c) l S Q = We a l S fun x S1 => isDc S1 x = some () ∧ We b l S1 fun y S2 => We c l S2 fun z S3 => ∃ r, dRd S3 x y = some r ∧ Q (r.getD z) S3 := by
  apply propext
  constructor
  · rintro ⟨v, S', h, q⟩
    obtain ⟨⟨x, S1⟩, h1, h⟩ := bnd h
    obtain ⟨_, h2, h⟩ := bnd h
    obtain ⟨⟨y, S2⟩, h3, h⟩ := bnd h
    obtain ⟨⟨z, S3⟩, h5, h⟩ := bnd h
    obtain ⟨r, h4, h⟩ := bnd h
    cases h
    exact ⟨x, S1, h1, h2, y, S2, h3, z, _, h5, r, h4, q⟩
  · rintro ⟨x, S1, h1, h2, y, S2, h3, z, S3, h5, r, h4, q⟩
    refine ⟨_, _, ?_, q⟩
    unfold eGet2; rw [h1]; show (isDc S1 x).bind _ = _; rw [h2]; show (b l S1).bind _ = _; rw [h3]; show (c l S2).bind _ = _; rw [h5]; show (dRd S3 x y).bind _ = _; rw [h4]; rfl
theorem wg_putX {o i : EM} {v : D} : Wg (gPutX o i v l S) QG = We o l S fun x S1 => We i l S1 fun y S2 => ∃ S', putX x y v S2 = some S' ∧ QG l S' := by
  apply propext
  constructor
  · rintro ⟨l', S', h, q⟩
    obtain ⟨⟨x, S1⟩, h1, h⟩ := bnd h
    obtain ⟨⟨y, S2⟩, h2, h⟩ := bnd h
    obtain ⟨S3, h3, h⟩ := bnd h
    cases h
    exact ⟨x, S1, h1, y, S2, h2, _, h3, q⟩
  · rintro ⟨x, S1, h1, y, S2, h2, S3, h3, q⟩
    refine ⟨l, S3, ?_, q⟩
    unfold gPutX; rw [h1]; show (i l S1).bind _ = _; rw [h2]; show (putX x y v S2).bind _ = _; rw [h3]; rfl
theorem putT_ok {n : Nat} {kvs : List (List L2.Key × D)} {y v : D} {k : List L2.Key} (h : S[n]? = some (.tdct kvs)) (hk : tKey y = some k) (hz : kvs.length < sizeLine) : putX (.ref n) y v S = some (S.set n (.tdct (tvPut kvs k v))) := by
  unfold putX; dsimp only; rw [h]; dsimp only; rw [hk]; show (if _ then _ else _) = _; rw [if_pos hz]
theorem dRdT {n : Nat} {kvs : List (List L2.Key × D)} {y : D} {k : List L2.Key} (h : S[n]? = some (.tdct kvs)) (hk : tKey y = some k) : dRd S (.ref n) y = some (tvGet kvs k) := by
  unfold dRd; dsimp only; rw [h]; dsimp only; rw [hk]; rfl
theorem isDcT {n : Nat} {kvs : List (List L2.Key × D)} (h : S[n]? = some (.tdct kvs)) : isDc S (.ref n) = some () := by unfold isDc; dsimp only; rw [h]
end
theorem ws_cutO {m n : SM} {l : Lo} {S : Sto} {QS : Fl → Lo → Sto → Prop} (R : Lo → Sto → Prop) (O : D → Sto → Prop) (h1 : Ws m l S fun f l1 S1 => (f = .nx ∧ R l1 S1) ∨ ∃ d, f = .rt d ∧ O d S1) (h2 : ∀ l1 S1, R l1 S1 → Ws n l1 S1 QS) (h3 : ∀ d l1 S1, O d S1 → QS (.rt d) l1 S1) : Ws (sSeq m n) l S QS := by
  rw [ws_seq]
  obtain ⟨f, l1, S1, e, q⟩ := h1
  rcases q with ⟨rfl, r⟩ | ⟨d, rfl, o⟩
  · exact ⟨_, _, _, e, h2 l1 S1 r⟩
  · exact ⟨_, _, _, e, h3 d l1 S1 o⟩
theorem Gr.len {A B : Sto} (h : Gr A B) : A.length ≤ B.length := by obtain ⟨x, rfl⟩ := h; rw [List.length_append]; omega
theorem Gr.set {A B : Sto} {r : Nat} (h : Gr A B) (hr : A.length ≤ r) (o : Ob) : Gr A (B.set r o) := by
  obtain ⟨x, rfl⟩ := h
  exact ⟨x.set (r - A.length) o, by rw [List.set_append_right _ _ hr]⟩
theorem lstOf_of {S : Sto} {n : Nat} {xs : List D} (h : S[n]? = some (.lst xs)) : lstOf S n = some xs := by unfold lstOf; rw [h]
theorem get_new {S : Sto} {o : Ob} : (S ++ [o])[S.length]? = some o := get_self S o
theorem get_old {S : Sto} {n : Nat} {o o' : Ob} (h : S[n]? = some o) : (S ++ [o'])[n]? = some o := by
  rw [List.getElem?_append_left (List.getElem?_eq_some_iff.mp h).1]; exact h
theorem get_set_ne {S : Sto} {n m : Nat} {o o' : Ob} (h : S[m]? = some o) (hn : n ≠ m) : (S.set n o')[m]? = some o := by rw [List.getElem?_set_ne hn]; exact h
theorem wo_app {S : Sto} {n : Nat} {xs : List D} {x : D} {Q : D → Sto → Prop} (h : S[n]? = some (.lst xs)) (hz : xs.length < sizeLine) : Wo (mAppend (.ref n) [x] S) Q = Q .non (S.set n (.lst (xs ++ [x]))) := by
  rw [wo_append, h]
  apply propext
  constructor
  · rintro ⟨ys, e, _, q⟩; cases e; exact q
  · exact fun q => ⟨xs, rfl, hz, q⟩
theorem recvL_of {S : Sto} {n : Nat} {xs : List D} (h : S[n]? = some (.lst xs)) : recvL (.ref n) S = some xs := lstOf_of h
end L3
section
namespace G
open PySem PySem.Spec PyProof.Rows L2 L3
abbrev bd : List Stmt := PySem.Challenge.pw_opencells_k36_trees_told.main.body
def b_beginnings : SM := sSeq (sAsg (eDict1T (eCall fTup (aNil)) (eC (.bl true))) (gName3 1)) (sSeq (sFor (eVar 0) (gTup3 2 (gCons3 (gName3 2) (gCons3 (gName3 3) (gNil3)))) (sForR (rng1 (aCons (eCall fLenA (aCons (eVar 2) (aNil))) (aNil))) (gName3 4) (sAsg (eC (.bl true)) (gPutX (eVar 1) (eSlA (eVar 2) (oNone) (oSome (eVar 4))))))) (sRet (eCall fListD (aCons (eVar 1) (aNil)))))
def m_beginnings : FM := runB 5 b_beginnings
def b_answers_unlike : SM := sRet (eAnd3 (eOp dIsNot (eVar 0) (eC .non)) (eAnd3 (eOp dIsNot (eVar 1) (eC .non)) (eOp dNe (eVar 0) (eVar 1))))
def m_answers_unlike : FM := runB 2 b_answers_unlike
def b_told_answers : SM := sSeq (sAsg (eDictT) (gName3 1)) (sSeq (sForI (iEnumA (aCons (eVar 0) (aNil))) (gTup3 2 (gCons3 (gName3 2) (gCons3 (gTup3 2 (gCons3 (gName3 3) (gCons3 (gName3 4) (gNil3)))) (gNil3)))) (sForI (iEnumA (aCons (eVar 4) (aNil))) (gTup3 2 (gCons3 (gName3 5) (gCons3 (gName3 6) (gNil3)))) (sSeq (sAsg (eSlA (eVar 3) (oNone) (oSome (eOp dPlusA (eVar 5) (eC (.int 1))))) (gName3 7)) (sSeq (sIf (tE (eCall m_answers_unlike (aCons (eGet1 (eVar 1) (eVar 7)) (aCons (eVar 6) (aNil))))) (sNever) (sNext)) (sIf (tE (eOp dIsNot (eVar 6) (eC .non))) (sAsg (eVar 6) (gPutX (eVar 1) (eVar 7))) (sNext)))))) (sRet (eVar 1)))
def m_told_answers : FM := runB 8 b_told_answers
def b_tree_of : SM := sSeq (sAsg (eCall m_told_answers (aCons (eVar 1) (aNil))) (gName3 2)) (sSeq (sAsg (eCall m_beginnings (aCons (eVar 1) (aNil))) (gName3 3)) (sSeq (sIf (tE (eOp dGt (eCall fLenA (aCons (eVar 3) (aNil))) (eC (.int 24)))) (sNever) (sNext)) (sSeq (sAsg (eTComp (iEnumA (aCons (eVar 3) (aNil))) [none, none] (gTup3 2 (gCons3 (gName3 0) (gCons3 (gName3 1) (gNil3)))) (tTrue) (eVar 1) (eVar 0)) (gName3 4)) (sSeq (sAsg (eComp (iVal (eVar 3)) [none, some 0, some 4, some 2] (gName3 0) (tTrue) (eComp (iRng (rng1 (aCons (eVar 1) (aNil)))) [none, some 2, some 0, some 3] (gName3 0) (tTrue) (eCall fTup (aCons (eGet1 (eVar 1) (eOp dPlusA (eVar 2) (eCall fTup (aCons (eVar 0) (aNil))))) (aCons (eGet1 (eVar 3) (eOp dPlusA (eVar 2) (eCall fTup (aCons (eVar 0) (aNil))))) (aNil)))))) (gName3 5)) (sRet (eCall fTup (aCons (eVar 0) (aCons (eCall fTuple (aCons (eComp (iVal (eVar 5)) [none] (gName3 0) (tTrue) (eCall fTuple (aCons (eVar 0) (aNil)))) (aNil))) (aNil)))))))))
def m_tree_of : FM := runB 6 b_tree_of
def b_law_begun : SM := sSeq (sAsg (eCall fLst (aCons (eCall fTup (aNil)) (aNil))) (gName3 1)) (sSeq (sFor (eVar 0) (gTup3 2 (gCons3 (gName3 2) (gCons3 (gName3 3) (gNil3)))) (sForR (rng2 (aCons (eC (.int 1)) (aCons (eCall fLenA (aCons (eVar 2) (aNil))) (aNil)))) (gName3 4) (sIf (tE (eOp (dInD true) (eSlA (eVar 2) (oNone) (oSome (eVar 4))) (eVar 1))) (sDrop (eMethL mAppend (eVar 1) (aCons (eSlA (eVar 2) (oNone) (oSome (eVar 4))) aNil))) (sNext)))) (sRet (eVar 1)))
def m_law_begun : FM := runB 5 b_law_begun
def b_law_tree : SM := sSeq (sAsg (eCall m_law_begun (aCons (eVar 1) (aNil))) (gName3 2)) (sSeq (sAsg (eCall fLst (aNil)) (gName3 3)) (sSeq (sFor (eVar 2) (gName3 4) (sSeq (sAsg (eCall fLst (aNil)) (gName3 5)) (sSeq (sForR (rng1 (aCons (eVar 0) (aNil))) (gName3 6) (sSeq (sAsg (eOp dPlusA (eVar 4) (eCall fTup (aCons (eVar 6) (aNil)))) (gName3 7)) (sSeq (sAsg (eC .non) (gName3 8)) (sSeq (sFor (eVar 1) (gTup3 2 (gCons3 (gName3 9) (gCons3 (gName3 10) (gNil3)))) (sIf (tAnd3 (tE (eOp dEqD (eSlA (eVar 9) (oNone) (oSome (eCall fLenA (aCons (eVar 7) (aNil))))) (eVar 7))) (tE (eOp dIsNot (eOp dIxA (eVar 10) (eCall fLenA (aCons (eVar 4) (aNil)))) (eC .non)))) (sAsg (eOp dIxA (eVar 10) (eCall fLenA (aCons (eVar 4) (aNil)))) (gName3 8)) (sNext))) (sDrop (eMethL mAppend (eVar 5) (aCons (eCall fTup (aCons (eIf3 (tE (eOp (dInD false) (eVar 7) (eVar 2))) (eMethL mIndex (eVar 2) (aCons (eVar 7) aNil)) (eC .non)) (aCons (eVar 8) (aNil)))) aNil))))))) (sDrop (eMethL mAppend (eVar 3) (aCons (eCall fTuple (aCons (eVar 5) (aNil))) aNil)))))) (sRet (eCall fTup (aCons (eVar 0) (aCons (eCall fTuple (aCons (eVar 3) (aNil))) (aNil)))))))
def m_law_tree : FM := runB 11 b_law_tree
def b_law_shifted : SM := sSeq (sAsg (eCall fLst (aNil)) (gName3 2)) (sSeq (sFor (eVar 0) (gTup3 2 (gCons3 (gName3 3) (gCons3 (gName3 4) (gNil3)))) (sDrop (eMethL mAppend (eVar 2) (aCons (eCall fTup (aCons (eVar 3) (aCons (eCall fTuple (aCons (eComp (iVal (eVar 4)) [none, some 1] (gName3 0) (tTrue) (eIf3 (tE (eOp dIs (eVar 0) (eC .non))) (eC .non) (eOp dMod (eOp dPlusA (eVar 0) (eVar 1)) (eC (.int 8))))) (aNil))) (aNil)))) aNil)))) (sRet (eVar 2)))
def m_law_shifted : FM := runB 5 b_law_shifted
def b_law_draw : SM := sSeq (sIf (tE (eOp dGt (eOp dIxA (eVar 0) (eC (.int 2))) (eC (.int 0)))) (sSeq (sAsg (eOp dMod (eOp dIxA (eVar 0) (eC (.int 2))) (eVar 1)) (gName3 2)) (sSeq (sAsg (eOp dDiv (eOp dIxA (eVar 0) (eC (.int 2))) (eVar 1)) (gSub3 (eVar 0) (eC (.int 2)))) (sRet (eVar 2)))) (sNext)) (sSeq (sAsg (eSlA (eVar 0) (oNone) (oSome (eC (.int 2)))) (gTupG 2 (gCons3 (gName3 3) (gCons3 (gName3 4) (gNil3))))) (sSeq (sAsg (eOp dPlusA (eVar 4) (eC (.int 1))) (gSub3 (eVar 0) (eC (.int 1)))) (sSeq (sAsg (eOp dPlusA (eOp dTimes (eC (.int 1231)) (eVar 4)) (eC (.int 37))) (gName3 5)) (sSeq (sIf (tE (eOp dGt (eCall fLenA (aCons (eVar 3) (aNil))) (eC (.int 0)))) (sSeq (sAsg (eOp dIxA (eVar 3) (eOp dMod (eVar 4) (eCall fLenA (aCons (eVar 3) (aNil))))) (gName3 5)) (sIf (tAnd3 (tE (eOp dLt (eVar 4) (eCall fLenA (aCons (eVar 3) (aNil))))) (tE (eOp dGe (eCall fAbs (aCons (eVar 5) (aNil))) (eOp dPow (eC (.int 10)) (eC (.int 18)))))) (sSeq (sAsg (eOp dDiv (eCall fAbs (aCons (eVar 5) (aNil))) (eVar 1)) (gSub3 (eVar 0) (eC (.int 2)))) (sRet (eOp dMod (eCall fAbs (aCons (eVar 5) (aNil))) (eVar 1)))) (sNext))) (sNext)) (sSeq (sAsg (eOp dIxA (eCall fLst (aCons (eC (.int 2147483549)) (aCons (eC (.int 2147483587)) (aCons (eC (.int 2147483563)) (aCons (eC (.int 2147483629)) (aCons (eC (.int 2147483647)) (aNil))))))) (eOp dMod (eVar 4) (eC (.int 5)))) (gName3 6)) (sSeq (sAsg (eOp dMod (eOp dPow (eOp dPlusA (eOp dPlusA (eOp dMod (eVar 5) (eVar 6)) (eOp dTimes (eC (.int 45007)) (eVar 4))) (eC (.int 37))) (eC (.int 3))) (eVar 6)) (gName3 7)) (sSeq (sAsg (eOp dMod (eOp dPow (eOp dPlusA (eOp dTimes (eVar 7) (eOp dPlusA (eVar 4) (eC (.int 53)))) (eC (.int 1231))) (eC (.int 3))) (eC (.int 2147483579))) (gName3 7)) (sRet (eOp dMod (eOp dDiv (eVar 7) (eC (.int 64))) (eVar 1))))))))))
def m_law_draw : FM := runB 8 b_law_draw
def b_law_told_row : SM := sSeq (sAsg (eC (.int 0)) (gName3 4)) (sSeq (sAsg (eCall fLst (aNil)) (gName3 5)) (sSeq (sFor (eVar 2) (gName3 6) (sSeq (sAsg (eOp dIxA (eOp dIxA (eVar 1) (eVar 4)) (eVar 6)) (gTup3 2 (gCons3 (gName3 4) (gCons3 (gName3 7) (gNil3))))) (sDrop (eMethL mAppend (eVar 5) (aCons (eIf3 (tE (eOp dGt (eCall m_law_draw (aCons (eVar 0) (aCons (eOp dPlusA (eVar 3) (eC (.int 1))) (aNil)))) (eC (.int 0)))) (eVar 7) (eC .non)) aNil))))) (sRet (eCall fTup (aCons (eVar 2) (aCons (eCall fTuple (aCons (eVar 5) (aNil))) (aNil)))))))
def m_law_told_row : FM := runB 8 b_law_told_row
def b_law_sheet : SM := sSeq (sAsg (eOp dIxA (eCall fLst (aCons (eC (.int 1)) (aCons (eC (.int 2)) (aCons (eC (.int 4)) (aCons (eC (.int 9)) (aNil)))))) (eCall m_law_draw (aCons (eVar 0) (aCons (eC (.int 4)) (aNil))))) (gName3 4)) (sSeq (sAsg (eOp dIxA (eCall fLst (aCons (eC (.int 3)) (aCons (eC (.int 5)) (aCons (eC (.int 12)) (aNil))))) (eCall m_law_draw (aCons (eVar 0) (aCons (eC (.int 3)) (aNil))))) (gName3 5)) (sSeq (sAsg (eCall fLenA (aCons (eOp dIxA (eVar 1) (eC (.int 0))) (aNil))) (gName3 6)) (sSeq (sAsg (eCall fLst (aNil)) (gName3 7)) (sSeq (sForR (rng1 (aCons (eVar 2) (aNil))) (gName3 8) (sSeq (sAsg (eCall fTup (aNil)) (gName3 9)) (sSeq (sIf (tAnd3 (tE (eOp dNeNil (eVar 7) (eCall fLst (aNil)))) (tE (eOp dEq (eCall m_law_draw (aCons (eVar 0) (aCons (eC (.int 2)) (aNil)))) (eC (.int 0))))) (sSeq (sAsg (eOp dIxA (eOp dIxA (eVar 7) (eCall m_law_draw (aCons (eVar 0) (aCons (eCall fLenA (aCons (eVar 7) (aNil))) (aNil))))) (eC (.int 0))) (gName3 10)) (sAsg (eSlA (eVar 10) (oNone) (oSome (eCall m_law_draw (aCons (eVar 0) (aCons (eOp dPlusA (eCall fLenA (aCons (eVar 10) (aNil))) (eC (.int 1))) (aNil)))))) (gName3 9))) (sNext)) (sSeq (sAsg (eOp dPlusA (eVar 9) (eCall fTuple (aCons (eComp (iRng (rng1 (aCons (eOp dPlusA (eC (.int 1)) (eCall m_law_draw (aCons (eVar 0) (aCons (eVar 5) (aNil))))) (aNil)))) [none, some 0, some 6] (gName3 0) (tTrue) (eCall m_law_draw (aCons (eVar 1) (aCons (eVar 2) (aNil))))) (aNil)))) (gName3 9)) (sSeq (sAsg (eOp dPlusA (eVar 7) (eCall fLst (aCons (eCall m_law_told_row (aCons (eVar 0) (aCons (eVar 1) (aCons (eSlA (eVar 9) (oNone) (oSome (eC (.int 12)))) (aCons (eVar 4) (aNil)))))) (aNil)))) (gName3 11)) (sIf (tE (eOp dLe (eCall fLenA (aCons (eCall m_law_begun (aCons (eVar 11) (aNil))) (aNil))) (eVar 3))) (sAsg (eVar 11) (gName3 7)) (sNext))))))) (sRet (eVar 7))))))
def m_law_sheet : FM := runB 12 b_law_sheet
def b_law_small : SM := sSeq (sAsg (eOp dPlusA (eC (.int 1)) (eCall m_law_draw (aCons (eVar 0) (aCons (eVar 2) (aNil))))) (gName3 3)) (sSeq (sAsg (eOp dIxA (eCall fLst (aCons (eC (.int 2)) (aCons (eC (.int 3)) (aCons (eC (.int 8)) (aNil))))) (eCall m_law_draw (aCons (eVar 0) (aCons (eC (.int 3)) (aNil))))) (gName3 4)) (sSeq (sAsg (eCall fLst (aNil)) (gName3 5)) (sSeq (sForR (rng1 (aCons (eVar 3) (aNil))) (gName3 6) (sDrop (eMethL mAppend (eVar 5) (aCons (eCall fTuple (aCons (eComp (iRng (rng1 (aCons (eVar 1) (aNil)))) [none, some 0, some 3, some 4] (gName3 0) (tTrue) (eCall fTup (aCons (eCall m_law_draw (aCons (eVar 1) (aCons (eVar 2) (aNil)))) (aCons (eCall m_law_draw (aCons (eVar 1) (aCons (eVar 3) (aNil)))) (aNil))))) (aNil))) aNil)))) (sRet (eCall fTuple (aCons (eVar 5) (aNil)))))))
def m_law_small : FM := runB 7 b_law_small
def b_law_pen : SM := sRet (eCall fLst (aCons (eVar 0) (aCons (eC (.int 0)) (aCons (eC (.int 0)) (aNil)))))
def m_law_pen : FM := runB 1 b_law_pen
def b_law : SM := sSeq (sAsg (eCall m_law_pen (aCons (eVar 0) (aNil))) (gName3 1)) (sSeq (sForR (rng1 (aCons (eC (.int 3)) (aNil))) (gName3 2) (sSeq (sAsg (eOp dIxA (eCall fLst (aCons (eCall m_law_draw (aCons (eVar 1) (aCons (eC (.int 25)) (aNil)))) (aCons (eC (.int 24)) (aCons (eC (.int 3)) (aNil))))) (eCall m_law_draw (aCons (eVar 1) (aCons (eC (.int 3)) (aNil))))) (gName3 3)) (sSeq (sAsg (eOp dPlusA (eC (.int 1)) (eCall m_law_draw (aCons (eVar 1) (aCons (eC (.int 4)) (aNil))))) (gName3 4)) (sSeq (sAsg (eCall m_law_draw (aCons (eVar 1) (aCons (eOp dSub (eC (.int 5)) (eVar 4)) (aNil)))) (gName3 5)) (sSeq (sAsg (eCall m_law_sheet (aCons (eVar 1) (aCons (eCall m_law_small (aCons (eVar 1) (aCons (eVar 4) (aCons (eC (.int 5)) (aNil))))) (aCons (eVar 3) (aCons (eC (.int 24)) (aNil)))))) (gName3 6)) (sSeq (sAsg (eCall m_law_tree (aCons (eOp dPlusA (eVar 4) (eVar 5)) (aCons (eVar 6) (aNil)))) (gName3 7)) (sSeq (sAsg (eCall m_law_shifted (aCons (eVar 6) (aCons (eOp dPlusA (eC (.int 1)) (eCall m_law_draw (aCons (eVar 1) (aCons (eC (.int 7)) (aNil))))) (aNil)))) (gName3 8)) (sSeq (sIf (tE (eOp dNe (eCall fRepr (aCons (eCall m_tree_of (aCons (eOp dPlusA (eVar 4) (eVar 5)) (aCons (eVar 8) (aNil)))) (aNil))) (eCall fRepr (aCons (eCall m_law_tree (aCons (eOp dPlusA (eVar 4) (eVar 5)) (aCons (eVar 8) (aNil)))) (aNil))))) (sRet (eC (.bl false))) (sNext)) (sSeq (sAsg (eCall fList (aCons (eVar 6) (aNil))) (gName3 9)) (sSeq (sForR (rng1 (aCons (eC (.int 2)) (aNil))) (gName3 10) (sSeq (sIf (tOr3 (tE (eOp dNe (eCall fRepr (aCons (eCall m_tree_of (aCons (eOp dPlusA (eVar 4) (eVar 5)) (aCons (eVar 9) (aNil)))) (aNil))) (eCall fRepr (aCons (eVar 7) (aNil))))) (tE (eOp dNeD (eVar 9) (eVar 6)))) (sRet (eC (.bl false))) (sNext)) (sSeq (sDrop (eMethL mReverse (eVar 9) aNil)) (sSeq (sDrop (eMethL mClear (eVar 9) aNil)) (sDrop (eMethL mExtend (eVar 9) (aCons (eVar 6) aNil))))))) (sIf (tE (eOp dNeD (eCall m_tree_of (aCons (eVar 4) (aCons (eCall fLst (aNil)) (aNil)))) (eCall fTup (aCons (eVar 4) (aCons (eCall fTup (aCons (eOp dTimes (eCall fTup (aCons (eCall fTup (aCons (eC .non) (aCons (eC .non) (aNil)))) (aNil))) (eVar 4)) (aNil))) (aNil)))))) (sRet (eC (.bl false))) (sNext)))))))))))) (sRet (eC (.bl true))))
def m_law : FM := runB 11 b_law
section
variable {P : Program} {w : World} {K : PySem.W.Frag} {mg : Str → Option Value} {base : Heap} {CA : Str → Addr}
theorem sc_beginnings : FnScope ["sheet", "found", "row", "answers", "many"] ["sheet"] (defScope (top bd 10)) := ⟨rfl, rfl, rfl, by decide +kernel, rfl, by decide +kernel, by decide +kernel⟩
theorem h_m_beginnings {f : Addr} {fd : FuncData} (F : Fun K "beginnings" "beginnings" (top bd 10) f fd) (hm : mg "beginnings" = some (.ref f)) (z_list : mg "list" = none) (z_range : mg "range" = none) (z_len : mg "len" = none) : Has P w K mg base "beginnings" 1 1 m_beginnings := by
  have sc := sc_beginnings
  refine has_of (k := 0) F hm sc rfl (F.binds fun _ _ _ _ _ _ us hl => match us, hl with | [_], _ => rfl) fun cdv hcd A outer s H E hr => ?_
  exact ss3_cons (s3_set 1 sc.nd (p3_dict1T hr (p3_tup (a3_nil)) (p3_bl))) (ss3_cons (s3_for PassesOwn.never rfl (p3_var 0) (g3_tup rfl (gs3_cons (g3_name 2 sc.nd) (gs3_cons (g3_name 3 sc.nd) (gs3_nil)))) (ss3_one (s3_forR1 PassesOwn.never rfl rfl z_range (a3_cons (p3_lenA rfl z_len (a3_cons (p3_var 2) (a3_nil))) (a3_nil)) (g3_name 4 sc.nd) (ss3_one (s3_putX hr (p3_var 1) (p3_slA (p3_var 2) (o3_none) (o3_some (p3_var 4))) (p3_bl)))))) (ss3_one (s3_ret (p3_listD rfl rfl z_list (a3_cons (p3_var 1) (a3_nil))))))
theorem sc_answers_unlike : FnScope ["one", "other"] ["one", "other"] (defScope (top bd 6)) := ⟨rfl, rfl, rfl, by decide +kernel, rfl, by decide +kernel, by decide +kernel⟩
theorem h_m_answers_unlike {f : Addr} {fd : FuncData} (F : Fun K "answers_unlike" "answers_unlike" (top bd 6) f fd) (hm : mg "answers_unlike" = some (.ref f)) : Has P w K mg base "answers_unlike" 1 2 m_answers_unlike := by
  have sc := sc_answers_unlike
  refine has_of (k := 0) F hm sc rfl (F.binds fun _ _ _ _ _ _ us hl => match us, hl with | [_, _], _ => rfl) fun cdv hcd A outer s H E hr => ?_
  exact ss3_one (s3_ret (p3_and (p3_isnot (p3_var 0) (p3_non)) (p3_and (p3_isnot (p3_var 1) (p3_non)) (p3_one (p3_ne (p3_var 0) (p3_var 1))))))
theorem sc_told_answers : FnScope ["sheet", "found", "number", "row", "answers", "place", "answer", "asked"] ["sheet"] (defScope (top bd 9)) := ⟨rfl, rfl, rfl, by decide +kernel, rfl, by decide +kernel, by decide +kernel⟩
theorem h_m_told_answers {f : Addr} {fd : FuncData} (F : Fun K "told_answers" "told_answers" (top bd 9) f fd) (hm : mg "told_answers" = some (.ref f)) (z_enumerate : mg "enumerate" = none) (h_m_answers_unlike : Has P w K mg base "answers_unlike" 1 2 m_answers_unlike) : Has P w K mg base "told_answers" 2 1 m_told_answers := by
  have sc := sc_told_answers
  refine has_of (k := 1) F hm sc rfl (F.binds fun _ _ _ _ _ _ us hl => match us, hl with | [_], _ => rfl) fun cdv hcd A outer s H E hr => ?_
  exact ss3_cons (s3_set 1 sc.nd (p3_dictT)) (ss3_cons (s3_forL PassesOwn.never rfl (i3_enum rfl z_enumerate (a3_cons (p3_var 0) (a3_nil))) (g3_tup rfl (gs3_cons (g3_name 2 sc.nd) (gs3_cons (g3_tup rfl (gs3_cons (g3_name 3 sc.nd) (gs3_cons (g3_name 4 sc.nd) (gs3_nil)))) (gs3_nil)))) (ss3_one (s3_forL PassesOwn.never rfl (i3_enum rfl z_enumerate (a3_cons (p3_var 4) (a3_nil))) (g3_tup rfl (gs3_cons (g3_name 5 sc.nd) (gs3_cons (g3_name 6 sc.nd) (gs3_nil)))) (ss3_cons (s3_set 7 sc.nd (p3_slA (p3_var 3) (o3_none) (o3_some (p3_plusA (p3_var 5) (p3_int))))) (ss3_cons (s3_if (t3_val (p3_fn h_m_answers_unlike hr (by decide) rfl (a3_cons (p3_get1 hr (p3_var 1) (p3_var 7)) (a3_cons (p3_var 6) (a3_nil))) (len_cons (len_cons len_nil)))) (ss3_one (s3_never)) (ss3_nil)) (ss3_one (s3_if (t3_isnot (p3_var 6) (p3_non)) (ss3_one (s3_putX hr (p3_var 1) (p3_var 7) (p3_var 6))) (ss3_nil)))))))) (ss3_one (s3_ret (p3_var 1))))
theorem sc_tree_of : FnScope ["asks", "sheet", "answers", "rooms", "numbers", "cells"] ["asks", "sheet"] (defScope (top bd 8)) := ⟨rfl, rfl, rfl, by decide +kernel, rfl, by decide +kernel, by decide +kernel⟩
theorem h_m_tree_of {f : Addr} {fd : FuncData} (F : Fun K "tree_of" "tree_of" (top bd 8) f fd) (hm : mg "tree_of" = some (.ref f)) (z_tuple : mg "tuple" = none) (z_range : mg "range" = none) (z_enumerate : mg "enumerate" = none) (z_len : mg "len" = none) (c_MOST_ROOMS : ∃ t, mg "MOST_ROOMS" = some (.int 24 t)) (h_m_beginnings : Has P w K mg base "beginnings" 1 1 m_beginnings) (h_m_told_answers : Has P w K mg base "told_answers" 2 1 m_told_answers) : Has P w K mg base "tree_of" 3 2 m_tree_of := by
  obtain ⟨_, c_MOST_ROOMS⟩ := c_MOST_ROOMS
  have sc := sc_tree_of
  refine has_of (k := 2) F hm sc rfl (F.binds fun _ _ _ _ _ _ us hl => match us, hl with | [_, _], _ => rfl) fun cdv hcd A outer s H E hr => ?_
  exact ss3_cons (s3_set 2 sc.nd (p3_fn h_m_told_answers hr (by decide) rfl (a3_cons (p3_var 1) (a3_nil)) (len_cons len_nil))) (ss3_cons (s3_set 3 sc.nd (p3_fn h_m_beginnings hr (by decide) rfl (a3_cons (p3_var 1) (a3_nil)) (len_cons len_nil))) (ss3_cons (s3_if (t3_gt (p3_lenA rfl z_len (a3_cons (p3_var 3) (a3_nil))) (p3_globI rfl c_MOST_ROOMS)) (ss3_one (s3_never)) (ss3_nil)) (ss3_cons (s3_set 4 sc.nd (p3_compT hr (N' := ["number", "room"]) (ixs := [none, none]) rfl (compSc_of (scO := defScope (top bd 8)) (NO := ["asks", "sheet", "answers", "rooms", "numbers", "cells"]) rfl rfl (by decide +kernel)) (i3_enum rfl z_enumerate (a3_cons (p3_var 3) (a3_nil))) (fun _ _ _ _ _ => g3_tup rfl (gs3_cons (g3_name 0 (show List.Nodup (["number", "room"] : List Str) by decide +kernel)) (gs3_cons (g3_name 1 (show List.Nodup (["number", "room"] : List Str) by decide +kernel)) (gs3_nil)))) (fun _ _ _ _ _ => pts3_nil) (fun _ _ _ _ _ => p3_var 1) (fun _ _ _ _ _ => p3_var 0))) (ss3_cons (s3_setcC 5 sc.nd (N' := ["room", "asks", "numbers", "answers"]) (ixs := [none, some 0, some 4, some 2]) rfl (compSd_of (scO := defScope (top bd 8)) (NO := ["asks", "sheet", "answers", "rooms", "numbers", "cells"]) rfl rfl (by decide +kernel)) (i3_val (p3_var 3)) (fun _ _ _ _ _ => g3_name 0 (show List.Nodup (["room", "asks", "numbers", "answers"] : List Str) by decide +kernel)) (fun _ _ _ _ _ => pts3_nil) (fun _ _ _ _ _ => p3_comp (N' := ["ask", "numbers", "room", "answers"]) (ixs := [none, some 2, some 0, some 3]) rfl (compSc_ofD (scO := defScope (top bd 8)) rfl (by decide +kernel)) (i3_rng1 rfl z_range (a3_cons (p3_var 1) (a3_nil))) (fun _ _ _ _ _ => g3_name 0 (show List.Nodup (["ask", "numbers", "room", "answers"] : List Str) by decide +kernel)) (fun _ _ _ _ _ => pts3_nil) (fun _ _ _ _ _ => p3_tup (a3_cons (p3_get1 hr (p3_var 1) (p3_plusA (p3_var 2) (p3_tup (a3_cons (p3_var 0) (a3_nil))))) (a3_cons (p3_get1 hr (p3_var 3) (p3_plusA (p3_var 2) (p3_tup (a3_cons (p3_var 0) (a3_nil))))) (a3_nil)))))) (ss3_one (s3_ret (p3_tup (a3_cons (p3_var 0) (a3_cons (p3_tuple1 rfl z_tuple (a3_cons (p3_comp (N' := ["room"]) (ixs := [none]) rfl (compSc_of (scO := defScope (top bd 8)) (NO := ["asks", "sheet", "answers", "rooms", "numbers", "cells"]) rfl rfl (by decide +kernel)) (i3_val (p3_var 5)) (fun _ _ _ _ _ => g3_name 0 (show List.Nodup (["room"] : List Str) by decide +kernel)) (fun _ _ _ _ _ => pts3_nil) (fun _ _ _ _ _ => p3_tuple1 rfl z_tuple (a3_cons (p3_var 0) (a3_nil)))) (a3_nil))) (a3_nil))))))))))
theorem sc_law_begun : FnScope ["_law_sheet_here", "_law_found", "_law_row", "_law_answers", "_law_size"] ["_law_sheet_here"] (defScope (top bd 15)) := ⟨rfl, rfl, rfl, by decide +kernel, rfl, by decide +kernel, by decide +kernel⟩
theorem h_m_law_begun {f : Addr} {fd : FuncData} (F : Fun K "_law_begun" "_law_begun" (top bd 15) f fd) (hm : mg "_law_begun" = some (.ref f)) (z_range : mg "range" = none) (z_len : mg "len" = none) : Has P w K mg base "_law_begun" 1 1 m_law_begun := by
  have sc := sc_law_begun
  refine has_of (k := 0) F hm sc rfl (F.binds fun _ _ _ _ _ _ us hl => match us, hl with | [_], _ => rfl) fun cdv hcd A outer s H E hr => ?_
  exact ss3_cons (s3_set 1 sc.nd (p3_lst (a3_cons (p3_tup (a3_nil)) (a3_nil)))) (ss3_cons (s3_for PassesOwn.never rfl (p3_var 0) (g3_tup rfl (gs3_cons (g3_name 2 sc.nd) (gs3_cons (g3_name 3 sc.nd) (gs3_nil)))) (ss3_one (s3_forR2 PassesOwn.never rfl rfl z_range (a3_cons (p3_int) (a3_cons (p3_lenA rfl z_len (a3_cons (p3_var 2) (a3_nil))) (a3_nil))) (g3_name 4 sc.nd) (ss3_one (s3_if (t3_notinD hr (p3_slA (p3_var 2) (o3_none) (o3_some (p3_var 4))) (p3_var 1)) (ss3_one (s3_expr (p3_append (p3_var 1) (p3_slA (p3_var 2) (o3_none) (o3_some (p3_var 4)))))) (ss3_nil)))))) (ss3_one (s3_ret (p3_var 1))))
theorem sc_law_tree : FnScope ["_law_asks", "_law_sheet_here", "_law_begun_here", "_law_rooms", "_law_row", "_law_cells", "_law_ask", "_law_here", "_law_answer", "_law_other", "_law_answers"] ["_law_asks", "_law_sheet_here"] (defScope (top bd 18)) := ⟨rfl, rfl, rfl, by decide +kernel, rfl, by decide +kernel, by decide +kernel⟩
theorem h_m_law_tree {f : Addr} {fd : FuncData} (F : Fun K "_law_tree" "_law_tree" (top bd 18) f fd) (hm : mg "_law_tree" = some (.ref f)) (z_tuple : mg "tuple" = none) (z_len : mg "len" = none) (z_range : mg "range" = none) (h_m_law_begun : Has P w K mg base "_law_begun" 1 1 m_law_begun) : Has P w K mg base "_law_tree" 2 2 m_law_tree := by
  have sc := sc_law_tree
  refine has_of (k := 1) F hm sc rfl (F.binds fun _ _ _ _ _ _ us hl => match us, hl with | [_, _], _ => rfl) fun cdv hcd A outer s H E hr => ?_
  exact ss3_cons (s3_set 2 sc.nd (p3_fn h_m_law_begun hr (by decide) rfl (a3_cons (p3_var 1) (a3_nil)) (len_cons len_nil))) (ss3_cons (s3_set 3 sc.nd (p3_lst (a3_nil))) (ss3_cons (s3_for PassesOwn.never rfl (p3_var 2) (g3_name 4 sc.nd) (ss3_cons (s3_set 5 sc.nd (p3_lst (a3_nil))) (ss3_cons (s3_forR1 PassesOwn.never rfl rfl z_range (a3_cons (p3_var 0) (a3_nil)) (g3_name 6 sc.nd) (ss3_cons (s3_set 7 sc.nd (p3_plusA (p3_var 4) (p3_tup (a3_cons (p3_var 6) (a3_nil))))) (ss3_cons (s3_set 8 sc.nd (p3_non)) (ss3_cons (s3_for PassesOwn.never rfl (p3_var 1) (g3_tup rfl (gs3_cons (g3_name 9 sc.nd) (gs3_cons (g3_name 10 sc.nd) (gs3_nil)))) (ss3_one (s3_if (t3_w (w3_and (t3_eqD hr (p3_slA (p3_var 9) (o3_none) (o3_some (p3_lenA rfl z_len (a3_cons (p3_var 7) (a3_nil))))) (p3_var 7)) (w3_and1 (t3_isnot (p3_ixA (p3_var 10) (p3_lenA rfl z_len (a3_cons (p3_var 4) (a3_nil)))) (p3_non))))) (ss3_one (s3_set 8 sc.nd (p3_ixA (p3_var 10) (p3_lenA rfl z_len (a3_cons (p3_var 4) (a3_nil)))))) (ss3_nil)))) (ss3_one (s3_expr (p3_append (p3_var 5) (p3_tup (a3_cons (p3_ifE (t3_inD hr (p3_var 7) (p3_var 2)) (p3_index hr (p3_var 2) (p3_var 7)) (p3_non)) (a3_cons (p3_var 8) (a3_nil))))))))))) (ss3_one (s3_expr (p3_append (p3_var 3) (p3_tuple1 rfl z_tuple (a3_cons (p3_var 5) (a3_nil))))))))) (ss3_one (s3_ret (p3_tup (a3_cons (p3_var 0) (a3_cons (p3_tuple1 rfl z_tuple (a3_cons (p3_var 3) (a3_nil))) (a3_nil))))))))
theorem sc_law_shifted : FnScope ["_law_sheet_here", "_law_by", "_law_found", "_law_row", "_law_answers"] ["_law_sheet_here", "_law_by"] (defScope (top bd 19)) := ⟨rfl, rfl, rfl, by decide +kernel, rfl, by decide +kernel, by decide +kernel⟩
theorem h_m_law_shifted {f : Addr} {fd : FuncData} (F : Fun K "_law_shifted" "_law_shifted" (top bd 19) f fd) (hm : mg "_law_shifted" = some (.ref f)) (z_tuple : mg "tuple" = none) : Has P w K mg base "_law_shifted" 1 2 m_law_shifted := by
  have sc := sc_law_shifted
  refine has_of (k := 0) F hm sc rfl (F.binds fun _ _ _ _ _ _ us hl => match us, hl with | [_, _], _ => rfl) fun cdv hcd A outer s H E hr => ?_
  exact ss3_cons (s3_set 2 sc.nd (p3_lst (a3_nil))) (ss3_cons (s3_for PassesOwn.never rfl (p3_var 0) (g3_tup rfl (gs3_cons (g3_name 3 sc.nd) (gs3_cons (g3_name 4 sc.nd) (gs3_nil)))) (ss3_one (s3_expr (p3_append (p3_var 2) (p3_tup (a3_cons (p3_var 3) (a3_cons (p3_tuple1 rfl z_tuple (a3_cons (p3_comp (N' := ["_law_answer", "_law_by"]) (ixs := [none, some 1]) rfl (compSc_of (scO := defScope (top bd 19)) (NO := ["_law_sheet_here", "_law_by", "_law_found", "_law_row", "_law_answers"]) rfl rfl (by decide +kernel)) (i3_val (p3_var 4)) (fun _ _ _ _ _ => g3_name 0 (show List.Nodup (["_law_answer", "_law_by"] : List Str) by decide +kernel)) (fun _ _ _ _ _ => pts3_nil) (fun _ _ _ _ _ => p3_ifE (t3_is (p3_var 0) (p3_non)) (p3_non) (p3_mod (p3_plusA (p3_var 0) (p3_var 1)) (p3_int)))) (a3_nil))) (a3_nil)))))))) (ss3_one (s3_ret (p3_var 2))))
theorem sc_law_draw : FnScope ["_law_pen_here", "_law_many", "_law_digit", "_law_script", "_law_at", "_law_cell", "_law_prime", "_law_number"] ["_law_pen_here", "_law_many"] (defScope (top bd 13)) := ⟨rfl, rfl, rfl, by decide +kernel, rfl, by decide +kernel, by decide +kernel⟩
theorem h_m_law_draw {f : Addr} {fd : FuncData} (F : Fun K "_law_draw" "_law_draw" (top bd 13) f fd) (hm : mg "_law_draw" = some (.ref f)) (z_len : mg "len" = none) (z_abs : mg "abs" = none) : Has P w K mg base "_law_draw" 1 2 m_law_draw := by
  have sc := sc_law_draw
  refine has_of (k := 0) F hm sc rfl (F.binds fun _ _ _ _ _ _ us hl => match us, hl with | [_, _], _ => rfl) fun cdv hcd A outer s H E hr => ?_
  exact ss3_cons (s3_if (t3_gt (p3_ixA (p3_var 0) (p3_int)) (p3_int)) (ss3_cons (s3_set 2 sc.nd (p3_mod (p3_ixA (p3_var 0) (p3_int)) (p3_var 1))) (ss3_cons (s3_asg (p3_div (p3_ixA (p3_var 0) (p3_int)) (p3_var 1)) (g3_sub (p3_var 0) (p3_int))) (ss3_one (s3_ret (p3_var 2))))) (ss3_nil)) (ss3_cons (s3_asg (p3_slA (p3_var 0) (o3_none) (o3_some (p3_int))) (g3_tupG rfl (gs3_cons (g3_name 3 sc.nd) (gs3_cons (g3_name 4 sc.nd) (gs3_nil))))) (ss3_cons (s3_asg (p3_plusA (p3_var 4) (p3_int)) (g3_sub (p3_var 0) (p3_int))) (ss3_cons (s3_set 5 sc.nd (p3_plusA (p3_times (p3_int) (p3_var 4)) (p3_int))) (ss3_cons (s3_if (t3_gt (p3_lenA rfl z_len (a3_cons (p3_var 3) (a3_nil))) (p3_int)) (ss3_cons (s3_set 5 sc.nd (p3_ixA (p3_var 3) (p3_mod (p3_var 4) (p3_lenA rfl z_len (a3_cons (p3_var 3) (a3_nil)))))) (ss3_one (s3_if (t3_w (w3_and (t3_lt (p3_var 4) (p3_lenA rfl z_len (a3_cons (p3_var 3) (a3_nil)))) (w3_and1 (t3_ge (p3_abs rfl z_abs (a3_cons (p3_var 5) (a3_nil))) (p3_pow (p3_int) (p3_int)))))) (ss3_cons (s3_asg (p3_div (p3_abs rfl z_abs (a3_cons (p3_var 5) (a3_nil))) (p3_var 1)) (g3_sub (p3_var 0) (p3_int))) (ss3_one (s3_ret (p3_mod (p3_abs rfl z_abs (a3_cons (p3_var 5) (a3_nil))) (p3_var 1))))) (ss3_nil)))) (ss3_nil)) (ss3_cons (s3_set 6 sc.nd (p3_ixA (p3_lst (a3_cons (p3_int) (a3_cons (p3_int) (a3_cons (p3_int) (a3_cons (p3_int) (a3_cons (p3_int) (a3_nil))))))) (p3_mod (p3_var 4) (p3_int)))) (ss3_cons (s3_set 7 sc.nd (p3_mod (p3_pow (p3_plusA (p3_plusA (p3_mod (p3_var 5) (p3_var 6)) (p3_times (p3_int) (p3_var 4))) (p3_int)) (p3_int)) (p3_var 6))) (ss3_cons (s3_set 7 sc.nd (p3_mod (p3_pow (p3_plusA (p3_times (p3_var 7) (p3_plusA (p3_var 4) (p3_int))) (p3_int)) (p3_int)) (p3_int))) (ss3_one (s3_ret (p3_mod (p3_div (p3_var 7) (p3_int)) (p3_var 1)))))))))))
theorem sc_law_told_row : FnScope ["_law_pen_here", "_law_rooms", "_law_row", "_law_share", "_law_room", "_law_answers", "_law_ask", "_law_answer"] ["_law_pen_here", "_law_rooms", "_law_row", "_law_share"] (defScope (top bd 16)) := ⟨rfl, rfl, rfl, by decide +kernel, rfl, by decide +kernel, by decide +kernel⟩
theorem h_m_law_told_row {f : Addr} {fd : FuncData} (F : Fun K "_law_told_row" "_law_told_row" (top bd 16) f fd) (hm : mg "_law_told_row" = some (.ref f)) (z_tuple : mg "tuple" = none) (h_m_law_draw : Has P w K mg base "_law_draw" 1 2 m_law_draw) : Has P w K mg base "_law_told_row" 2 4 m_law_told_row := by
  have sc := sc_law_told_row
  refine has_of (k := 1) F hm sc rfl (F.binds fun _ _ _ _ _ _ us hl => match us, hl with | [_, _, _, _], _ => rfl) fun cdv hcd A outer s H E hr => ?_
  exact ss3_cons (s3_set 4 sc.nd (p3_int)) (ss3_cons (s3_set 5 sc.nd (p3_lst (a3_nil))) (ss3_cons (s3_for PassesOwn.never rfl (p3_var 2) (g3_name 6 sc.nd) (ss3_cons (s3_asg (p3_ixA (p3_ixA (p3_var 1) (p3_var 4)) (p3_var 6)) (g3_tup rfl (gs3_cons (g3_name 4 sc.nd) (gs3_cons (g3_name 7 sc.nd) (gs3_nil))))) (ss3_one (s3_expr (p3_append (p3_var 5) (p3_ifE (t3_gt (p3_fn h_m_law_draw hr (by decide) rfl (a3_cons (p3_var 0) (a3_cons (p3_plusA (p3_var 3) (p3_int)) (a3_nil))) (len_cons (len_cons len_nil))) (p3_int)) (p3_var 7) (p3_non))))))) (ss3_one (s3_ret (p3_tup (a3_cons (p3_var 2) (a3_cons (p3_tuple1 rfl z_tuple (a3_cons (p3_var 5) (a3_nil))) (a3_nil))))))))
theorem sc_law_sheet : FnScope ["_law_pen_here", "_law_rooms", "_law_many", "_law_most", "_law_share", "_law_wide", "_law_asks", "_law_sheet_here", "_law_turn", "_law_row", "_law_elder", "_law_more"] ["_law_pen_here", "_law_rooms", "_law_many", "_law_most"] (defScope (top bd 17)) := ⟨rfl, rfl, rfl, by decide +kernel, rfl, by decide +kernel, by decide +kernel⟩
theorem h_m_law_sheet {f : Addr} {fd : FuncData} (F : Fun K "_law_sheet" "_law_sheet" (top bd 17) f fd) (hm : mg "_law_sheet" = some (.ref f)) (z_len : mg "len" = none) (z_tuple : mg "tuple" = none) (z_range : mg "range" = none) (h_m_law_begun : Has P w K mg base "_law_begun" 1 1 m_law_begun) (h_m_law_told_row : Has P w K mg base "_law_told_row" 2 4 m_law_told_row) (h_m_law_draw : Has P w K mg base "_law_draw" 1 2 m_law_draw) : Has P w K mg base "_law_sheet" 3 4 m_law_sheet := by
  have sc := sc_law_sheet
  refine has_of (k := 2) F hm sc rfl (F.binds fun _ _ _ _ _ _ us hl => match us, hl with | [_, _, _, _], _ => rfl) fun cdv hcd A outer s H E hr => ?_
  exact ss3_cons (s3_set 4 sc.nd (p3_ixA (p3_lst (a3_cons (p3_int) (a3_cons (p3_int) (a3_cons (p3_int) (a3_cons (p3_int) (a3_nil)))))) (p3_fn h_m_law_draw hr (by decide) rfl (a3_cons (p3_var 0) (a3_cons (p3_int) (a3_nil))) (len_cons (len_cons len_nil))))) (ss3_cons (s3_set 5 sc.nd (p3_ixA (p3_lst (a3_cons (p3_int) (a3_cons (p3_int) (a3_cons (p3_int) (a3_nil))))) (p3_fn h_m_law_draw hr (by decide) rfl (a3_cons (p3_var 0) (a3_cons (p3_int) (a3_nil))) (len_cons (len_cons len_nil))))) (ss3_cons (s3_set 6 sc.nd (p3_lenA rfl z_len (a3_cons (p3_ixA (p3_var 1) (p3_int)) (a3_nil)))) (ss3_cons (s3_set 7 sc.nd (p3_lst (a3_nil))) (ss3_cons (s3_forR1 PassesOwn.never rfl rfl z_range (a3_cons (p3_var 2) (a3_nil)) (g3_name 8 sc.nd) (ss3_cons (s3_set 9 sc.nd (p3_tup (a3_nil))) (ss3_cons (s3_if (t3_w (w3_and (t3_neNil hr (p3_var 7) (p3_lst (a3_nil))) (w3_and1 (t3_eq (p3_fn h_m_law_draw hr (by decide) rfl (a3_cons (p3_var 0) (a3_cons (p3_int) (a3_nil))) (len_cons (len_cons len_nil))) (p3_int))))) (ss3_cons (s3_set 10 sc.nd (p3_ixA (p3_ixA (p3_var 7) (p3_fn h_m_law_draw hr (by decide) rfl (a3_cons (p3_var 0) (a3_cons (p3_lenA rfl z_len (a3_cons (p3_var 7) (a3_nil))) (a3_nil))) (len_cons (len_cons len_nil)))) (p3_int))) (ss3_one (s3_set 9 sc.nd (p3_slA (p3_var 10) (o3_none) (o3_some (p3_fn h_m_law_draw hr (by decide) rfl (a3_cons (p3_var 0) (a3_cons (p3_plusA (p3_lenA rfl z_len (a3_cons (p3_var 10) (a3_nil))) (p3_int)) (a3_nil))) (len_cons (len_cons len_nil)))))))) (ss3_nil)) (ss3_cons (s3_set 9 sc.nd (p3_plusA (p3_var 9) (p3_tuple1 rfl z_tuple (a3_cons (p3_comp (N' := ["_law_k", "_law_pen_here", "_law_asks"]) (ixs := [none, some 0, some 6]) rfl (compSc_of (scO := defScope (top bd 17)) (NO := ["_law_pen_here", "_law_rooms", "_law_many", "_law_most", "_law_share", "_law_wide", "_law_asks", "_law_sheet_here", "_law_turn", "_law_row", "_law_elder", "_law_more"]) rfl rfl (by decide +kernel)) (i3_rng1 rfl z_range (a3_cons (p3_plusA (p3_int) (p3_fn h_m_law_draw hr (by decide) rfl (a3_cons (p3_var 0) (a3_cons (p3_var 5) (a3_nil))) (len_cons (len_cons len_nil)))) (a3_nil))) (fun _ _ _ _ _ => g3_name 0 (show List.Nodup (["_law_k", "_law_pen_here", "_law_asks"] : List Str) by decide +kernel)) (fun _ _ _ _ _ => pts3_nil) (fun _ _ _ _ _ => p3_fn h_m_law_draw hr (by decide) rfl (a3_cons (p3_var 1) (a3_cons (p3_var 2) (a3_nil))) (len_cons (len_cons len_nil)))) (a3_nil))))) (ss3_cons (s3_set 11 sc.nd (p3_plusA (p3_var 7) (p3_lst (a3_cons (p3_fn h_m_law_told_row hr (by decide) rfl (a3_cons (p3_var 0) (a3_cons (p3_var 1) (a3_cons (p3_slA (p3_var 9) (o3_none) (o3_some (p3_int))) (a3_cons (p3_var 4) (a3_nil))))) (len_cons (len_cons (len_cons (len_cons len_nil))))) (a3_nil))))) (ss3_one (s3_if (t3_le (p3_lenA rfl z_len (a3_cons (p3_fn h_m_law_begun hr (by decide) rfl (a3_cons (p3_var 11) (a3_nil)) (len_cons len_nil)) (a3_nil))) (p3_var 3)) (ss3_one (s3_set 7 sc.nd (p3_var 11))) (ss3_nil)))))))) (ss3_one (s3_ret (p3_var 7)))))))
theorem sc_law_small : FnScope ["_law_pen_here", "_law_asks", "_law_most", "_law_many", "_law_answers", "_law_found", "_law_room"] ["_law_pen_here", "_law_asks", "_law_most"] (defScope (top bd 14)) := ⟨rfl, rfl, rfl, by decide +kernel, rfl, by decide +kernel, by decide +kernel⟩
theorem h_m_law_small {f : Addr} {fd : FuncData} (F : Fun K "_law_small" "_law_small" (top bd 14) f fd) (hm : mg "_law_small" = some (.ref f)) (z_tuple : mg "tuple" = none) (z_range : mg "range" = none) (h_m_law_draw : Has P w K mg base "_law_draw" 1 2 m_law_draw) : Has P w K mg base "_law_small" 2 3 m_law_small := by
  have sc := sc_law_small
  refine has_of (k := 1) F hm sc rfl (F.binds fun _ _ _ _ _ _ us hl => match us, hl with | [_, _, _], _ => rfl) fun cdv hcd A outer s H E hr => ?_
  exact ss3_cons (s3_set 3 sc.nd (p3_plusA (p3_int) (p3_fn h_m_law_draw hr (by decide) rfl (a3_cons (p3_var 0) (a3_cons (p3_var 2) (a3_nil))) (len_cons (len_cons len_nil))))) (ss3_cons (s3_set 4 sc.nd (p3_ixA (p3_lst (a3_cons (p3_int) (a3_cons (p3_int) (a3_cons (p3_int) (a3_nil))))) (p3_fn h_m_law_draw hr (by decide) rfl (a3_cons (p3_var 0) (a3_cons (p3_int) (a3_nil))) (len_cons (len_cons len_nil))))) (ss3_cons (s3_set 5 sc.nd (p3_lst (a3_nil))) (ss3_cons (s3_forR1 PassesOwn.never rfl rfl z_range (a3_cons (p3_var 3) (a3_nil)) (g3_name 6 sc.nd) (ss3_one (s3_expr (p3_append (p3_var 5) (p3_tuple1 rfl z_tuple (a3_cons (p3_comp (N' := ["_law_ask", "_law_pen_here", "_law_many", "_law_answers"]) (ixs := [none, some 0, some 3, some 4]) rfl (compSc_of (scO := defScope (top bd 14)) (NO := ["_law_pen_here", "_law_asks", "_law_most", "_law_many", "_law_answers", "_law_found", "_law_room"]) rfl rfl (by decide +kernel)) (i3_rng1 rfl z_range (a3_cons (p3_var 1) (a3_nil))) (fun _ _ _ _ _ => g3_name 0 (show List.Nodup (["_law_ask", "_law_pen_here", "_law_many", "_law_answers"] : List Str) by decide +kernel)) (fun _ _ _ _ _ => pts3_nil) (fun _ _ _ _ _ => p3_tup (a3_cons (p3_fn h_m_law_draw hr (by decide) rfl (a3_cons (p3_var 1) (a3_cons (p3_var 2) (a3_nil))) (len_cons (len_cons len_nil))) (a3_cons (p3_fn h_m_law_draw hr (by decide) rfl (a3_cons (p3_var 1) (a3_cons (p3_var 3) (a3_nil))) (len_cons (len_cons len_nil))) (a3_nil))))) (a3_nil))))))) (ss3_one (s3_ret (p3_tuple1 rfl z_tuple (a3_cons (p3_var 5) (a3_nil))))))))
theorem sc_law_pen : FnScope ["_law_script"] ["_law_script"] (defScope (top bd 12)) := ⟨rfl, rfl, rfl, by decide +kernel, rfl, by decide +kernel, by decide +kernel⟩
theorem h_m_law_pen {f : Addr} {fd : FuncData} (F : Fun K "_law_pen" "_law_pen" (top bd 12) f fd) (hm : mg "_law_pen" = some (.ref f)) : Has P w K mg base "_law_pen" 1 1 m_law_pen := by
  have sc := sc_law_pen
  refine has_of (k := 0) F hm sc rfl (F.binds fun _ _ _ _ _ _ us hl => match us, hl with | [_], _ => rfl) fun cdv hcd A outer s H E hr => ?_
  exact ss3_one (s3_ret (p3_lst (a3_cons (p3_var 0) (a3_cons (p3_int) (a3_cons (p3_int) (a3_nil))))))
theorem sc_law : FnScope ["_law_script", "_law_pen_here", "_law_turn", "_law_many", "_law_asks", "_law_more", "_law_sheet_here", "_law_due", "_law_beside", "_law_handed", "_law_again"] ["_law_script"] (defScope (top bd 20)) := ⟨rfl, rfl, rfl, by decide +kernel, rfl, by decide +kernel, by decide +kernel⟩
theorem law_fn {f : Addr} {fd : FuncData} (F : Fun K "law" "law" (top bd 20) f fd) (z_repr : mg "repr" = none) (z_range : mg "range" = none) (z_list : mg "list" = none) (h_m_tree_of : Has P w K mg base "tree_of" 3 2 m_tree_of) (h_m_law_tree : Has P w K mg base "_law_tree" 2 2 m_law_tree) (h_m_law_shifted : Has P w K mg base "_law_shifted" 1 2 m_law_shifted) (h_m_law_draw : Has P w K mg base "_law_draw" 1 2 m_law_draw) (h_m_law_sheet : Has P w K mg base "_law_sheet" 3 4 m_law_sheet) (h_m_law_small : Has P w K mg base "_law_small" 2 3 m_law_small) (h_m_law_pen : Has P w K mg base "_law_pen" 1 1 m_law_pen) : FnOk P w K mg base CX0 4 f fd ["_law_script"] (sp3 K 1 m_law) := by
  have sc := sc_law
  refine fun3 (k := 3) F sc rfl fun cdv hcd A outer s H E hr => ?_
  exact ss3_cons (s3_set 1 sc.nd (p3_fn h_m_law_pen hr (by decide) rfl (a3_cons (p3_var 0) (a3_nil)) (len_cons len_nil))) (ss3_cons (s3_forR1 PassesOwn.never rfl rfl z_range (a3_cons (p3_int) (a3_nil)) (g3_name 2 sc.nd) (ss3_cons (s3_set 3 sc.nd (p3_ixA (p3_lst (a3_cons (p3_fn h_m_law_draw hr (by decide) rfl (a3_cons (p3_var 1) (a3_cons (p3_int) (a3_nil))) (len_cons (len_cons len_nil))) (a3_cons (p3_int) (a3_cons (p3_int) (a3_nil))))) (p3_fn h_m_law_draw hr (by decide) rfl (a3_cons (p3_var 1) (a3_cons (p3_int) (a3_nil))) (len_cons (len_cons len_nil))))) (ss3_cons (s3_set 4 sc.nd (p3_plusA (p3_int) (p3_fn h_m_law_draw hr (by decide) rfl (a3_cons (p3_var 1) (a3_cons (p3_int) (a3_nil))) (len_cons (len_cons len_nil))))) (ss3_cons (s3_set 5 sc.nd (p3_fn h_m_law_draw hr (by decide) rfl (a3_cons (p3_var 1) (a3_cons (p3_sub (p3_int) (p3_var 4)) (a3_nil))) (len_cons (len_cons len_nil)))) (ss3_cons (s3_set 6 sc.nd (p3_fn h_m_law_sheet hr (by decide) rfl (a3_cons (p3_var 1) (a3_cons (p3_fn h_m_law_small hr (by decide) rfl (a3_cons (p3_var 1) (a3_cons (p3_var 4) (a3_cons (p3_int) (a3_nil)))) (len_cons (len_cons (len_cons len_nil)))) (a3_cons (p3_var 3) (a3_cons (p3_int) (a3_nil))))) (len_cons (len_cons (len_cons (len_cons len_nil)))))) (ss3_cons (s3_set 7 sc.nd (p3_fn h_m_law_tree hr (by decide) rfl (a3_cons (p3_plusA (p3_var 4) (p3_var 5)) (a3_cons (p3_var 6) (a3_nil))) (len_cons (len_cons len_nil)))) (ss3_cons (s3_set 8 sc.nd (p3_fn h_m_law_shifted hr (by decide) rfl (a3_cons (p3_var 6) (a3_cons (p3_plusA (p3_int) (p3_fn h_m_law_draw hr (by decide) rfl (a3_cons (p3_var 1) (a3_cons (p3_int) (a3_nil))) (len_cons (len_cons len_nil)))) (a3_nil))) (len_cons (len_cons len_nil)))) (ss3_cons (s3_if (t3_ne (p3_repr hr rfl z_repr (a3_cons (p3_fn h_m_tree_of hr (by decide) rfl (a3_cons (p3_plusA (p3_var 4) (p3_var 5)) (a3_cons (p3_var 8) (a3_nil))) (len_cons (len_cons len_nil))) (a3_nil))) (p3_repr hr rfl z_repr (a3_cons (p3_fn h_m_law_tree hr (by decide) rfl (a3_cons (p3_plusA (p3_var 4) (p3_var 5)) (a3_cons (p3_var 8) (a3_nil))) (len_cons (len_cons len_nil))) (a3_nil)))) (ss3_one (s3_ret (p3_bl))) (ss3_nil)) (ss3_cons (s3_set 9 sc.nd (p3_list1 rfl z_list (a3_cons (p3_var 6) (a3_nil)))) (ss3_cons (s3_forR1 PassesOwn.never rfl rfl z_range (a3_cons (p3_int) (a3_nil)) (g3_name 10 sc.nd) (ss3_cons (s3_if (t3_w (w3_or (t3_ne (p3_repr hr rfl z_repr (a3_cons (p3_fn h_m_tree_of hr (by decide) rfl (a3_cons (p3_plusA (p3_var 4) (p3_var 5)) (a3_cons (p3_var 9) (a3_nil))) (len_cons (len_cons len_nil))) (a3_nil))) (p3_repr hr rfl z_repr (a3_cons (p3_var 7) (a3_nil)))) (w3_or1 (t3_neD hr (p3_var 9) (p3_var 6))))) (ss3_one (s3_ret (p3_bl))) (ss3_nil)) (ss3_cons (s3_expr (p3_reverse (p3_var 9))) (ss3_cons (s3_expr (p3_clear (p3_var 9))) (ss3_one (s3_expr (p3_extend (p3_var 9) (p3_var 6)))))))) (ss3_one (s3_if (t3_neD hr (p3_fn h_m_tree_of hr (by decide) rfl (a3_cons (p3_var 4) (a3_cons (p3_lst (a3_nil)) (a3_nil))) (len_cons (len_cons len_nil))) (p3_tup (a3_cons (p3_var 4) (a3_cons (p3_tup (a3_cons (p3_times (p3_tup (a3_cons (p3_tup (a3_cons (p3_non) (a3_cons (p3_non) (a3_nil)))) (a3_nil))) (p3_var 4)) (a3_nil))) (a3_nil))))) (ss3_one (s3_ret (p3_bl))) (ss3_nil))))))))))))) (ss3_one (s3_ret (p3_bl))))
end
theorem all_mk {l : PySem.W.OpenLaw} {w : World} {K : PySem.W.Frag} {h : Heap} {mg : Str → Option Value} {fa : Addr} (X : K.In h) (G : h.Ns mainGlobals mg) (hfa : mg "law" = some (.ref fa)) {f0 f1 f2 f3 f4 f5 f6 f7 f8 f9 f10 f11 f12 : Addr}
    {od0 an0 : Option Addr} {sl0 : Array (Option Value)} {oc0 kV0 dc0 pm0 cd0 ct0 : Value}
    {od1 an1 : Option Addr} {sl1 : Array (Option Value)} {oc1 kV1 dc1 pm1 cd1 ct1 : Value}
    {od2 an2 : Option Addr} {sl2 : Array (Option Value)} {oc2 kV2 dc2 pm2 cd2 ct2 : Value}
    {od3 an3 : Option Addr} {sl3 : Array (Option Value)} {oc3 kV3 dc3 pm3 cd3 ct3 : Value}
    {od4 an4 : Option Addr} {sl4 : Array (Option Value)} {oc4 kV4 dc4 pm4 cd4 ct4 : Value}
    {od5 an5 : Option Addr} {sl5 : Array (Option Value)} {oc5 kV5 dc5 pm5 cd5 ct5 : Value}
    {od6 an6 : Option Addr} {sl6 : Array (Option Value)} {oc6 kV6 dc6 pm6 cd6 ct6 : Value}
    {od7 an7 : Option Addr} {sl7 : Array (Option Value)} {oc7 kV7 dc7 pm7 cd7 ct7 : Value}
    {od8 an8 : Option Addr} {sl8 : Array (Option Value)} {oc8 kV8 dc8 pm8 cd8 ct8 : Value}
    {od9 an9 : Option Addr} {sl9 : Array (Option Value)} {oc9 kV9 dc9 pm9 cd9 ct9 : Value}
    {od10 an10 : Option Addr} {sl10 : Array (Option Value)} {oc10 kV10 dc10 pm10 cd10 ct10 : Value}
    {od11 an11 : Option Addr} {sl11 : Array (Option Value)} {oc11 kV11 dc11 pm11 cd11 ct11 : Value}
    {od12 an12 : Option Addr} {sl12 : Array (Option Value)} {oc12 kV12 dc12 pm12 cd12 ct12 : Value}
    (a0 : PySem.W.nsIn K mainGlobals "beginnings" = some (some (.ref f0))) (l0 : K.lookup f0 = some ⟨oc0, od0, .func (PySem.W.fnOf "beginnings" "beginnings" (defArgs (top bd 10)) (defBody (top bd 10)) (defScope (top bd 10)) .none kV0 dc0 pm0 an0 cd0 ct0), sl0⟩) (c0 : PySem.W.codeIn K cd0 "beginnings" = true) (k0 : PySem.W.keepIn K (.ref f0) = true)
    (a1 : PySem.W.nsIn K mainGlobals "answers_unlike" = some (some (.ref f1))) (l1 : K.lookup f1 = some ⟨oc1, od1, .func (PySem.W.fnOf "answers_unlike" "answers_unlike" (defArgs (top bd 6)) (defBody (top bd 6)) (defScope (top bd 6)) .none kV1 dc1 pm1 an1 cd1 ct1), sl1⟩) (c1 : PySem.W.codeIn K cd1 "answers_unlike" = true) (k1 : PySem.W.keepIn K (.ref f1) = true)
    (a2 : PySem.W.nsIn K mainGlobals "told_answers" = some (some (.ref f2))) (l2 : K.lookup f2 = some ⟨oc2, od2, .func (PySem.W.fnOf "told_answers" "told_answers" (defArgs (top bd 9)) (defBody (top bd 9)) (defScope (top bd 9)) .none kV2 dc2 pm2 an2 cd2 ct2), sl2⟩) (c2 : PySem.W.codeIn K cd2 "told_answers" = true) (k2 : PySem.W.keepIn K (.ref f2) = true)
    (a3 : PySem.W.nsIn K mainGlobals "tree_of" = some (some (.ref f3))) (l3 : K.lookup f3 = some ⟨oc3, od3, .func (PySem.W.fnOf "tree_of" "tree_of" (defArgs (top bd 8)) (defBody (top bd 8)) (defScope (top bd 8)) .none kV3 dc3 pm3 an3 cd3 ct3), sl3⟩) (c3 : PySem.W.codeIn K cd3 "tree_of" = true) (k3 : PySem.W.keepIn K (.ref f3) = true)
    (a4 : PySem.W.nsIn K mainGlobals "_law_begun" = some (some (.ref f4))) (l4 : K.lookup f4 = some ⟨oc4, od4, .func (PySem.W.fnOf "_law_begun" "_law_begun" (defArgs (top bd 15)) (defBody (top bd 15)) (defScope (top bd 15)) .none kV4 dc4 pm4 an4 cd4 ct4), sl4⟩) (c4 : PySem.W.codeIn K cd4 "_law_begun" = true) (k4 : PySem.W.keepIn K (.ref f4) = true)
    (a5 : PySem.W.nsIn K mainGlobals "_law_tree" = some (some (.ref f5))) (l5 : K.lookup f5 = some ⟨oc5, od5, .func (PySem.W.fnOf "_law_tree" "_law_tree" (defArgs (top bd 18)) (defBody (top bd 18)) (defScope (top bd 18)) .none kV5 dc5 pm5 an5 cd5 ct5), sl5⟩) (c5 : PySem.W.codeIn K cd5 "_law_tree" = true) (k5 : PySem.W.keepIn K (.ref f5) = true)
    (a6 : PySem.W.nsIn K mainGlobals "_law_shifted" = some (some (.ref f6))) (l6 : K.lookup f6 = some ⟨oc6, od6, .func (PySem.W.fnOf "_law_shifted" "_law_shifted" (defArgs (top bd 19)) (defBody (top bd 19)) (defScope (top bd 19)) .none kV6 dc6 pm6 an6 cd6 ct6), sl6⟩) (c6 : PySem.W.codeIn K cd6 "_law_shifted" = true) (k6 : PySem.W.keepIn K (.ref f6) = true)
    (a7 : PySem.W.nsIn K mainGlobals "_law_draw" = some (some (.ref f7))) (l7 : K.lookup f7 = some ⟨oc7, od7, .func (PySem.W.fnOf "_law_draw" "_law_draw" (defArgs (top bd 13)) (defBody (top bd 13)) (defScope (top bd 13)) .none kV7 dc7 pm7 an7 cd7 ct7), sl7⟩) (c7 : PySem.W.codeIn K cd7 "_law_draw" = true) (k7 : PySem.W.keepIn K (.ref f7) = true)
    (a8 : PySem.W.nsIn K mainGlobals "_law_told_row" = some (some (.ref f8))) (l8 : K.lookup f8 = some ⟨oc8, od8, .func (PySem.W.fnOf "_law_told_row" "_law_told_row" (defArgs (top bd 16)) (defBody (top bd 16)) (defScope (top bd 16)) .none kV8 dc8 pm8 an8 cd8 ct8), sl8⟩) (c8 : PySem.W.codeIn K cd8 "_law_told_row" = true) (k8 : PySem.W.keepIn K (.ref f8) = true)
    (a9 : PySem.W.nsIn K mainGlobals "_law_sheet" = some (some (.ref f9))) (l9 : K.lookup f9 = some ⟨oc9, od9, .func (PySem.W.fnOf "_law_sheet" "_law_sheet" (defArgs (top bd 17)) (defBody (top bd 17)) (defScope (top bd 17)) .none kV9 dc9 pm9 an9 cd9 ct9), sl9⟩) (c9 : PySem.W.codeIn K cd9 "_law_sheet" = true) (k9 : PySem.W.keepIn K (.ref f9) = true)
    (a10 : PySem.W.nsIn K mainGlobals "_law_small" = some (some (.ref f10))) (l10 : K.lookup f10 = some ⟨oc10, od10, .func (PySem.W.fnOf "_law_small" "_law_small" (defArgs (top bd 14)) (defBody (top bd 14)) (defScope (top bd 14)) .none kV10 dc10 pm10 an10 cd10 ct10), sl10⟩) (c10 : PySem.W.codeIn K cd10 "_law_small" = true) (k10 : PySem.W.keepIn K (.ref f10) = true)
    (a11 : PySem.W.nsIn K mainGlobals "_law_pen" = some (some (.ref f11))) (l11 : K.lookup f11 = some ⟨oc11, od11, .func (PySem.W.fnOf "_law_pen" "_law_pen" (defArgs (top bd 12)) (defBody (top bd 12)) (defScope (top bd 12)) .none kV11 dc11 pm11 an11 cd11 ct11), sl11⟩) (c11 : PySem.W.codeIn K cd11 "_law_pen" = true) (k11 : PySem.W.keepIn K (.ref f11) = true)
    (a12 : PySem.W.nsIn K mainGlobals "law" = some (some (.ref f12))) (l12 : K.lookup f12 = some ⟨oc12, od12, .func (PySem.W.fnOf "law" "law" (defArgs (top bd 20)) (defBody (top bd 20)) (defScope (top bd 20)) .none kV12 dc12 pm12 an12 cd12 ct12), sl12⟩) (c12 : PySem.W.codeIn K cd12 "law" = true) (k12 : PySem.W.keepIn K (.ref f12) = true)
    (z_list : PySem.W.nsIn K mainGlobals "list" = some none)
    (z_range : PySem.W.nsIn K mainGlobals "range" = some none)
    (z_len : PySem.W.nsIn K mainGlobals "len" = some none)
    (z_enumerate : PySem.W.nsIn K mainGlobals "enumerate" = some none)
    (z_tuple : PySem.W.nsIn K mainGlobals "tuple" = some none)
    (z_abs : PySem.W.nsIn K mainGlobals "abs" = some none)
    (z_repr : PySem.W.nsIn K mainGlobals "repr" = some none)
    {t_MOST_ROOMS : Tok} (c_MOST_ROOMS : PySem.W.nsIn K mainGlobals "MOST_ROOMS" = some (some (.int 24 t_MOST_ROOMS))) :
    ∃ fd : FuncData, (∀ (s : Shared) (v : Value), BindsTo s fd ⟨[v], []⟩ [("_law_script", v)]) ∧ ∀ base : Heap, K.In base → base.Ns mainGlobals mg → FnOk l.prog w K mg base CX0 4 fa fd ["_law_script"] (sp3 K 1 m_law) := by
  have y_list := PySem.W.mg_none_of X G z_list
  have y_range := PySem.W.mg_none_of X G z_range
  have y_len := PySem.W.mg_none_of X G z_len
  have y_enumerate := PySem.W.mg_none_of X G z_enumerate
  have y_tuple := PySem.W.mg_none_of X G z_tuple
  have y_abs := PySem.W.mg_none_of X G z_abs
  have y_repr := PySem.W.mg_none_of X G z_repr
  have y_MOST_ROOMS : ∃ t, mg "MOST_ROOMS" = some (.int 24 t) := ⟨_, PySem.W.mg_of X G c_MOST_ROOMS⟩
  have e := hfa.symm.trans (PySem.W.mg_of X G a12)
  cases e
  have F0 := fun_mk (st := top bd 10) l0 c0 k0
  have F1 := fun_mk (st := top bd 6) l1 c1 k1
  have F2 := fun_mk (st := top bd 9) l2 c2 k2
  have F3 := fun_mk (st := top bd 8) l3 c3 k3
  have F4 := fun_mk (st := top bd 15) l4 c4 k4
  have F5 := fun_mk (st := top bd 18) l5 c5 k5
  have F6 := fun_mk (st := top bd 19) l6 c6 k6
  have F7 := fun_mk (st := top bd 13) l7 c7 k7
  have F8 := fun_mk (st := top bd 16) l8 c8 k8
  have F9 := fun_mk (st := top bd 17) l9 c9 k9
  have F10 := fun_mk (st := top bd 14) l10 c10 k10
  have F11 := fun_mk (st := top bd 12) l11 c11 k11
  have F12 := fun_mk (st := top bd 20) l12 c12 k12
  refine ⟨PySem.W.fnOf "law" "law" (defArgs (top bd 20)) (defBody (top bd 20)) (defScope (top bd 20)) .none kV12 dc12 pm12 an12 cd12 ct12, fun s v => .of_eq rfl, fun base _ _ => ?_⟩
  have g0 : Has l.prog w K mg base "beginnings" 1 1 m_beginnings := h_m_beginnings F0 (PySem.W.mg_of X G a0) y_list y_range y_len
  have g1 : Has l.prog w K mg base "answers_unlike" 1 2 m_answers_unlike := h_m_answers_unlike F1 (PySem.W.mg_of X G a1)
  have g2 : Has l.prog w K mg base "told_answers" 2 1 m_told_answers := h_m_told_answers F2 (PySem.W.mg_of X G a2) y_enumerate g1
  have g3 : Has l.prog w K mg base "tree_of" 3 2 m_tree_of := h_m_tree_of F3 (PySem.W.mg_of X G a3) y_tuple y_range y_enumerate y_len y_MOST_ROOMS g0 g2
  have g4 : Has l.prog w K mg base "_law_begun" 1 1 m_law_begun := h_m_law_begun F4 (PySem.W.mg_of X G a4) y_range y_len
  have g5 : Has l.prog w K mg base "_law_tree" 2 2 m_law_tree := h_m_law_tree F5 (PySem.W.mg_of X G a5) y_tuple y_len y_range g4
  have g6 : Has l.prog w K mg base "_law_shifted" 1 2 m_law_shifted := h_m_law_shifted F6 (PySem.W.mg_of X G a6) y_tuple
  have g7 : Has l.prog w K mg base "_law_draw" 1 2 m_law_draw := h_m_law_draw F7 (PySem.W.mg_of X G a7) y_len y_abs
  have g8 : Has l.prog w K mg base "_law_told_row" 2 4 m_law_told_row := h_m_law_told_row F8 (PySem.W.mg_of X G a8) y_tuple g7
  have g9 : Has l.prog w K mg base "_law_sheet" 3 4 m_law_sheet := h_m_law_sheet F9 (PySem.W.mg_of X G a9) y_len y_tuple y_range g4 g8 g7
  have g10 : Has l.prog w K mg base "_law_small" 2 3 m_law_small := h_m_law_small F10 (PySem.W.mg_of X G a10) y_tuple y_range g7
  have g11 : Has l.prog w K mg base "_law_pen" 1 1 m_law_pen := h_m_law_pen F11 (PySem.W.mg_of X G a11)
  exact law_fn F12 y_repr y_range y_list g3 g5 g6 g7 g9 g10 g11
theorem walk {l : PySem.W.OpenLaw} {q : Program} {loose : List Str} {XP : (Str → Option Value) → Heap → Prop} {YP : World → Heap → Prop} {d : DefRec} {K : Params → PySem.W.Frag} (hn : l.most = some 63) (hdf : d.params.defaults = [])
    (hY : ∀ (w : World) (h : Heap), YP w h → (K w.params).In h)
    (F : ∀ (w : World) (mg : Str → Option Value) (fa : Addr) (h : Heap), (K w.params).In h → h.Ns mainGlobals mg → mg d.name = some (.ref fa) →
      ∃ fd : FuncData, (∀ (s : Shared) (u : Value), BindsTo s fd ⟨[u], []⟩ [("_law_script", u)]) ∧ ∀ base : Heap, (K w.params).In base → base.Ns mainGlobals mg → FnOk l.prog w (K w.params) mg base CX0 4 fa fd ["_law_script"] (sp3 (K w.params) 1 m_law))
    (hlaw : ∀ ns : List Int, ns.length ≤ 63 → ∃ S', m_law [.ref 0] [.flst (ns.map D.int)] = some (.bl true, S')) :
    PySem.W.WalkO q loose XP YP l.row.toRowW d [] (fun f vs => PySem.call f vs) :=
  L2.walk_of (n := 63) (k := 4) (x := "_law_script") (CX := fun _ => CX0) (sp := fun w => sp3 (K w.params) 1 m_law) hn (by decide) hdf ⟨rfl, by decide, by decide, rfl⟩ hY F (fun _ _ a ns hl hO hS => law_sp hO hS (hlaw ns hl)) fun _ _ _ _ _ z => z
end G
end
namespace M
open PySem L3 G
theorem lst_of {S : Sto} {n : Nat} {xs : List D} (h : S[n]? = some (.lst xs)) : lstOf S n = some xs := by unfold lstOf; rw [h]
def PQ (ns : List Int) (c : Nat) (S : Sto) : Prop := ∃ at' r : Int, S[1]? = some (.lst [.ref 0, .int at', .int r]) ∧ lstOf S 0 = some (ns.map D.int) ∧ 0 ≤ at' ∧ at' ≤ c ∧ 0 ≤ r
def Fn (S S' : Sto) : Prop := ∀ (j : Nat) (o : Ob), j ≠ 1 → S[j]? = some o → S'[j]? = some o
theorem Fn.refl (S : Sto) : Fn S S := fun _ _ _ h => h
theorem Fn.trans {A B C : Sto} (h : Fn A B) (g : Fn B C) : Fn A C := fun j o hj e => g j o hj (h j o hj e)
theorem Fn.gr {A B : Sto} (h : Gr A B) : Fn A B := fun _ _ _ e => h.get e
theorem Fn.set {A : Sto} {o : Ob} : Fn A (A.set 1 o) := fun j o' hj e => by rw [List.getElem?_set_ne (Ne.symm hj)]; exact e
theorem Fn.lst {m : Nat} {A B : Sto} {xs : List D} (h : Fn A B) (hm : m ≠ 1) (e : lstOf A m = some xs) : lstOf B m = some xs := by
  unfold lstOf at e ⊢
  cases q : A[m]? with
  | none => rw [q] at e; cases e
  | some o => rw [h m o hm q]; rw [q] at e; exact e
theorem PQ.gr {ns : List Int} {c : Nat} {A B : Sto} (h : PQ ns c A) (g : Gr A B) : PQ ns c B := let ⟨x, y, e, f, r⟩ := h; ⟨x, y, g.get e, g.lst f, r⟩
theorem PQ.mono {ns : List Int} {c d : Nat} {A : Sto} (h : PQ ns c A) (g : c ≤ d) : PQ ns d A := let ⟨x, y, e, f, r1, r2, r3⟩ := h; ⟨x, y, e, f, r1, by omega, r3⟩
theorem set_1 {S : Sto} {a b c v : D} (h : S[1]? = some (.lst [a, b, c])) : setIx (.ref 1) (.int 1) v S = some (S.set 1 (.lst [a, v, c])) := by
  unfold setIx; simp only [h]; rfl
theorem set_2 {S : Sto} {a b c v : D} (h : S[1]? = some (.lst [a, b, c])) : setIx (.ref 1) (.int 2) v S = some (S.set 1 (.lst [a, b, v])) := by
  unfold setIx; simp only [h]; rfl
theorem get_setL {S : Sto} {n : Nat} {o o' : Ob} (h : S[n]? = some o') : (S.set n o)[n]? = some o := List.getElem?_set_self (List.getElem?_eq_some_iff.mp h).1
theorem prime_at (i : Int) (h0 : 0 ≤ i) (h1 : i < 5) : ∃ p, L2.atI [D.int 2147483549, .int 2147483587, .int 2147483563, .int 2147483629, .int 2147483647] i = some (.int p) ∧ 0 < p ∧ p < 2147483648 := by
  have : i = 0 ∨ i = 1 ∨ i = 2 ∨ i = 3 ∨ i = 4 := by omega
  rcases this with rfl | rfl | rfl | rfl | rfl <;> exact ⟨_, rfl, by decide, by decide⟩
theorem wg_tupL {k j : Nat} {gs : GsM} {xs : List D} {l : Lo} {S : Sto} {Q : Lo → Sto → Prop} (h : lstOf S j = some xs) (hl : xs.length = k) (q : Wg (gs xs l S) Q) : Wg (gTupG k gs (.ref j) l S) Q := by
  have : gTupG k gs (.ref j) l S = gs xs l S := by unfold gTupG; dsimp only; rw [h]; show (if _ then _ else _) = _; rw [if_pos hl]
  rw [this]; exact q
theorem draw_ok {ns : List Int} {c : Nat} {m : Int} {S : Sto} (h : PQ ns c S) (hc : c < 100000000) (h1 : 0 < m) (h2 : m < 1073741824) : Wo (m_law_draw [.ref 1, .int m] S) fun v S' => (∃ d : Nat, v = .int d ∧ (d : Int) < m) ∧ PQ ns (c + 1) S' ∧ Fn S S' := by
  obtain ⟨a, r, hS, hs, a0, a1, r0⟩ := h
  have sz5 : 5 ≤ sizeLine := by decide
  unfold m_law_draw b_law_draw
  by_cases hr : 0 < r
  · simp only [wo_run, List.map_cons, List.map_nil, List.length_cons, List.length_nil, Nat.reduceAdd, Nat.reduceSub, List.replicate, List.cons_append, List.nil_append]
    refine ws_cutO (fun _ _ => False) (fun v S' => (∃ d : Nat, v = .int d ∧ (d : Int) < m) ∧ PQ ns (c + 1) S' ∧ Fn S S') ?_ (fun _ _ z => z.elim) (fun d _ _ o => o)
    simp only [wo_run, ws_seq, ws_if, wt_e, we_op, we_un, we_var, we_c, ws_asg, ws_ret, ws_drop, ws_next, ws_break, ws_cont, wg_name, wg_sub, wg_tup, wg_nil, wg_cons, wg_dput, we_call, we_methL, we_methS, wa_cons, wa_nil, wt_and, wt_or, wt_not, we_and, we_or, we_not, we_if, wo_I0, wo_I, wo_plusAI, wo_plusAT, we_slA, wp_none, wp_some, ex_int1, wo_slT, wo_intAB, wo_times, wo_ixT, wo_ixL, wo_ixAT, wo_ixAL, wo_ixAS, wo_lenT, wo_lenL, wo_lenAT, wo_lenAL, wo_lenAS, wo_abs, wo_intB, wo_tup, wo_lst, wo_tupleL, wo_eqI, wo_eqB, wo_eqSt, wo_neS, wo_neB, wo_neI, wo_is, wo_isnot, wo_str, wo_isI_bl, wo_isI_int, wo_isI_str, wo_isI_tup, wo_isI_non, isI_same, List.map_cons, List.map_nil, List.length_cons, List.length_nil, Nat.reduceAdd, Nat.reduceSub, List.replicate, List.cons_append, List.nil_append, List.getElem?_cons_zero, List.getElem?_cons_succ, List.set_cons_zero, List.set_cons_succ, ex_some, ex_some1, ex_bl, ex_int, at3_0, at3_1, at3_2, at2_0, at2_1, lstOf_last, decide_eq_true_eq, we_get1, we_get2, we_callV, we_fnc, we_dictT, wg_putX, lst_of hS, set_2 hS, decide_eq_true_eq, hr, h1, h2, if_true, true_and, and_self]
    have d0 := Int.emod_nonneg r (show m ≠ 0 by omega)
    have d1 := Int.emod_lt_of_pos r h1
    refine .inr ⟨_, rfl, ⟨(r % m).toNat, by rw [Int.toNat_of_nonneg d0], by rw [Int.toNat_of_nonneg d0]; exact d1⟩, ⟨a, r / m, get_setL hS, Fn.set.lst (by decide) hs, a0, by omega, Int.ediv_nonneg r0 (by omega)⟩, Fn.set⟩
  simp only [wo_run, List.map_cons, List.map_nil, List.length_cons, List.length_nil, Nat.reduceAdd, Nat.reduceSub, List.replicate, List.cons_append, List.nil_append]
  refine ws_cut (fun l S' => l = [some (.ref 1), some (.int m), none, none, none, none, none, none] ∧ S' = S) (by simp only [wo_run, ws_seq, ws_if, wt_e, we_op, we_un, we_var, we_c, ws_asg, ws_ret, ws_drop, ws_next, ws_break, ws_cont, wg_name, wg_sub, wg_tup, wg_nil, wg_cons, wg_dput, we_call, we_methL, we_methS, wa_cons, wa_nil, wt_and, wt_or, wt_not, we_and, we_or, we_not, we_if, wo_I0, wo_I, wo_plusAI, wo_plusAT, we_slA, wp_none, wp_some, ex_int1, wo_slT, wo_intAB, wo_times, wo_ixT, wo_ixL, wo_ixAT, wo_ixAL, wo_ixAS, wo_lenT, wo_lenL, wo_lenAT, wo_lenAL, wo_lenAS, wo_abs, wo_intB, wo_tup, wo_lst, wo_tupleL, wo_eqI, wo_eqB, wo_eqSt, wo_neS, wo_neB, wo_neI, wo_is, wo_isnot, wo_str, wo_isI_bl, wo_isI_int, wo_isI_str, wo_isI_tup, wo_isI_non, isI_same, List.map_cons, List.map_nil, List.length_cons, List.length_nil, Nat.reduceAdd, Nat.reduceSub, List.replicate, List.cons_append, List.nil_append, List.getElem?_cons_zero, List.getElem?_cons_succ, List.set_cons_zero, List.set_cons_succ, ex_some, ex_some1, ex_bl, ex_int, at3_0, at3_1, at3_2, at2_0, at2_1, lstOf_last, decide_eq_true_eq, we_get1, we_get2, we_callV, we_fnc, we_dictT, wg_putX, lst_of hS, decide_eq_true_eq, hr, if_false, and_self]) ?_
  rintro l S0 ⟨rfl, rfl⟩
  refine ws_cut (fun l S' => l = [some (.ref 1), some (.int m), none, some (.ref 0), some (.int a), none, none, none] ∧ Gr S0 S') ?_ ?_
  · simp only [ws_asg, we_slA, wp_none, wp_some, we_var, we_c, List.getElem?_cons_zero, ex_some, ex_int1, wo_slL (lst_of hS)]
    refine wg_tupL (xs := [.ref 0, .int a]) lstOf_last rfl ?_
    simp only [wo_run, ws_seq, ws_if, wt_e, we_op, we_un, we_var, we_c, ws_asg, ws_ret, ws_drop, ws_next, ws_break, ws_cont, wg_name, wg_sub, wg_tup, wg_nil, wg_cons, wg_dput, we_call, we_methL, we_methS, wa_cons, wa_nil, wt_and, wt_or, wt_not, we_and, we_or, we_not, we_if, wo_I0, wo_I, wo_plusAI, wo_plusAT, we_slA, wp_none, wp_some, ex_int1, wo_slT, wo_intAB, wo_times, wo_ixT, wo_ixL, wo_ixAT, wo_ixAL, wo_ixAS, wo_lenT, wo_lenL, wo_lenAT, wo_lenAL, wo_lenAS, wo_abs, wo_intB, wo_tup, wo_lst, wo_tupleL, wo_eqI, wo_eqB, wo_eqSt, wo_neS, wo_neB, wo_neI, wo_is, wo_isnot, wo_str, wo_isI_bl, wo_isI_int, wo_isI_str, wo_isI_tup, wo_isI_non, isI_same, List.map_cons, List.map_nil, List.length_cons, List.length_nil, Nat.reduceAdd, Nat.reduceSub, List.replicate, List.cons_append, List.nil_append, List.getElem?_cons_zero, List.getElem?_cons_succ, List.set_cons_zero, List.set_cons_succ, ex_some, ex_some1, ex_bl, ex_int, at3_0, at3_1, at3_2, at2_0, at2_1, lstOf_last, decide_eq_true_eq, we_get1, we_get2, we_callV, we_fnc, we_dictT, wg_putX]
    first | exact ⟨(by first | rfl | trivial), (by first | rfl | trivial), ⟨_, rfl⟩⟩ | exact ⟨(by first | rfl | trivial), ⟨_, rfl⟩⟩ | exact ⟨_, rfl⟩
  rintro l S1 ⟨rfl, g1⟩
  have hS1 := g1.get hS
  have hs1 := g1.lst hs
  have f01 : Fn S0 S1 := Fn.gr g1
  clear g1 hS hs
  refine ws_cut (fun l S' => l = [some (.ref 1), some (.int m), none, some (.ref 0), some (.int a), none, none, none] ∧ S' = S1.set 1 (.lst [.ref 0, .int (a + 1), .int r])) (by simp only [wo_run, ws_seq, ws_if, wt_e, we_op, we_un, we_var, we_c, ws_asg, ws_ret, ws_drop, ws_next, ws_break, ws_cont, wg_name, wg_sub, wg_tup, wg_nil, wg_cons, wg_dput, we_call, we_methL, we_methS, wa_cons, wa_nil, wt_and, wt_or, wt_not, we_and, we_or, we_not, we_if, wo_I0, wo_I, wo_plusAI, wo_plusAT, we_slA, wp_none, wp_some, ex_int1, wo_slT, wo_intAB, wo_times, wo_ixT, wo_ixL, wo_ixAT, wo_ixAL, wo_ixAS, wo_lenT, wo_lenL, wo_lenAT, wo_lenAL, wo_lenAS, wo_abs, wo_intB, wo_tup, wo_lst, wo_tupleL, wo_eqI, wo_eqB, wo_eqSt, wo_neS, wo_neB, wo_neI, wo_is, wo_isnot, wo_str, wo_isI_bl, wo_isI_int, wo_isI_str, wo_isI_tup, wo_isI_non, isI_same, List.map_cons, List.map_nil, List.length_cons, List.length_nil, Nat.reduceAdd, Nat.reduceSub, List.replicate, List.cons_append, List.nil_append, List.getElem?_cons_zero, List.getElem?_cons_succ, List.set_cons_zero, List.set_cons_succ, ex_some, ex_some1, ex_bl, ex_int, at3_0, at3_1, at3_2, at2_0, at2_1, lstOf_last, decide_eq_true_eq, we_get1, we_get2, we_callV, we_fnc, we_dictT, wg_putX, set_1 hS1, and_self]) ?_
  rintro l S2' ⟨rfl, rfl⟩
  have hS2 : (S1.set 1 (.lst [.ref 0, .int (a + 1), .int r]))[1]? = some (.lst [.ref 0, .int (a + 1), .int r]) := get_setL hS1
  have hs2 : lstOf (S1.set 1 (.lst [.ref 0, .int (a + 1), .int r])) 0 = some (ns.map D.int) := Fn.set.lst (by decide) hs1
  have f02 : Fn S0 (S1.set 1 (.lst [.ref 0, .int (a + 1), .int r])) := f01.trans Fn.set
  generalize S1.set 1 (.lst [.ref 0, .int (a + 1), .int r]) = S2 at hS2 hs2 f02
  have f1 : (-(2 ^ 64) : Int) < 1231 ∧ (1231 : Int) < 2 ^ 64 := by decide
  have f2 : (-(2 ^ 64) : Int) < 45007 ∧ (45007 : Int) < 2 ^ 64 := by decide
  have f5 : (0 : Int) ≤ 18 ∧ (18 : Int) ≤ 1000000 ∧ Int.natAbs 10 < 2 ^ 64 := by decide
  have f7 : (0 : Int) < 5 := by decide
  refine ws_cut (fun l S' => l = [some (.ref 1), some (.int m), none, some (.ref 0), some (.int a), some (.int (1231 * a + 37)), none, none] ∧ S' = S2) (by simp only [wo_run, ws_seq, ws_if, wt_e, we_op, we_un, we_var, we_c, ws_asg, ws_ret, ws_drop, ws_next, ws_break, ws_cont, wg_name, wg_sub, wg_tup, wg_nil, wg_cons, wg_dput, we_call, we_methL, we_methS, wa_cons, wa_nil, wt_and, wt_or, wt_not, we_and, we_or, we_not, we_if, wo_I0, wo_I, wo_plusAI, wo_plusAT, we_slA, wp_none, wp_some, ex_int1, wo_slT, wo_intAB, wo_times, wo_ixT, wo_ixL, wo_ixAT, wo_ixAL, wo_ixAS, wo_lenT, wo_lenL, wo_lenAT, wo_lenAL, wo_lenAS, wo_abs, wo_intB, wo_tup, wo_lst, wo_tupleL, wo_eqI, wo_eqB, wo_eqSt, wo_neS, wo_neB, wo_neI, wo_is, wo_isnot, wo_str, wo_isI_bl, wo_isI_int, wo_isI_str, wo_isI_tup, wo_isI_non, isI_same, List.map_cons, List.map_nil, List.length_cons, List.length_nil, Nat.reduceAdd, Nat.reduceSub, List.replicate, List.cons_append, List.nil_append, List.getElem?_cons_zero, List.getElem?_cons_succ, List.set_cons_zero, List.set_cons_succ, ex_some, ex_some1, ex_bl, ex_int, at3_0, at3_1, at3_2, at2_0, at2_1, lstOf_last, decide_eq_true_eq, we_get1, we_get2, we_callV, we_fnc, we_dictT, wg_putX, f1, true_or, and_self, true_and]) ?_
  rintro l S3 ⟨rfl, rfl⟩
  refine ws_cutO (fun l S' => ∃ k : Int, l = [some (.ref 1), some (.int m), none, some (.ref 0), some (.int a), some (.int k), none, none] ∧ S' = S3) (fun v S' => (∃ d : Nat, v = .int d ∧ (d : Int) < m) ∧ PQ ns (c + 1) S' ∧ Fn S0 S') ?_ ?_ (fun d _ _ o => o)
  · by_cases hl : 0 < (ns.length : Int)
    · obtain ⟨x, e1, e2⟩ := atI_in (ns.map D.int) (a % (ns.length : Int)) (Int.emod_nonneg _ (by omega)) (by rw [List.length_map]; exact Int.emod_lt_of_pos _ hl)
      obtain ⟨k, _, rfl⟩ := List.mem_map.mp e2
      rw [ws_if]
      simp only [wt_e, we_op, we_call, wa_cons, wa_nil, we_var, we_c, List.getElem?_cons_zero, List.getElem?_cons_succ, ex_some, wo_lenAL, hs2, ex_some1, List.length_map, wo_I0, ex_bl, hl, decide_true, if_true]
      refine ws_cut (fun l S' => l = [some (.ref 1), some (.int m), none, some (.ref 0), some (.int a), some (.int k), none, none] ∧ S' = S3) (by simp only [wo_run, ws_seq, ws_if, wt_e, we_op, we_un, we_var, we_c, ws_asg, ws_ret, ws_drop, ws_next, ws_break, ws_cont, wg_name, wg_sub, wg_tup, wg_nil, wg_cons, wg_dput, we_call, we_methL, we_methS, wa_cons, wa_nil, wt_and, wt_or, wt_not, we_and, we_or, we_not, we_if, wo_I0, wo_I, wo_plusAI, wo_plusAT, we_slA, wp_none, wp_some, ex_int1, wo_slT, wo_intAB, wo_times, wo_ixT, wo_ixL, wo_ixAT, wo_ixAL, wo_ixAS, wo_lenT, wo_lenL, wo_lenAT, wo_lenAL, wo_lenAS, wo_abs, wo_intB, wo_tup, wo_lst, wo_tupleL, wo_eqI, wo_eqB, wo_eqSt, wo_neS, wo_neB, wo_neI, wo_is, wo_isnot, wo_str, wo_isI_bl, wo_isI_int, wo_isI_str, wo_isI_tup, wo_isI_non, isI_same, List.map_cons, List.map_nil, List.length_cons, List.length_nil, Nat.reduceAdd, Nat.reduceSub, List.replicate, List.cons_append, List.nil_append, List.getElem?_cons_zero, List.getElem?_cons_succ, List.set_cons_zero, List.set_cons_succ, ex_some, ex_some1, ex_bl, ex_int, at3_0, at3_1, at3_2, at2_0, at2_1, lstOf_last, decide_eq_true_eq, we_get1, we_get2, we_callV, we_fnc, we_dictT, wg_putX, hs2, e1, hl, List.length_map, decide_true, true_and, and_self]) ?_
      rintro l S4 ⟨rfl, rfl⟩
      by_cases hb1 : a < (ns.length : Int)
      · by_cases hb2 : 10 ^ Int.toNat 18 ≤ (if k < 0 then -k else k)
        · simp only [wo_run, ws_seq, ws_if, wt_e, we_op, we_un, we_var, we_c, ws_asg, ws_ret, ws_drop, ws_next, ws_break, ws_cont, wg_name, wg_sub, wg_tup, wg_nil, wg_cons, wg_dput, we_call, we_methL, we_methS, wa_cons, wa_nil, wt_and, wt_or, wt_not, we_and, we_or, we_not, we_if, wo_I0, wo_I, wo_plusAI, wo_plusAT, we_slA, wp_none, wp_some, ex_int1, wo_slT, wo_intAB, wo_times, wo_ixT, wo_ixL, wo_ixAT, wo_ixAL, wo_ixAS, wo_lenT, wo_lenL, wo_lenAT, wo_lenAL, wo_lenAS, wo_abs, wo_intB, wo_tup, wo_lst, wo_tupleL, wo_eqI, wo_eqB, wo_eqSt, wo_neS, wo_neB, wo_neI, wo_is, wo_isnot, wo_str, wo_isI_bl, wo_isI_int, wo_isI_str, wo_isI_tup, wo_isI_non, isI_same, List.map_cons, List.map_nil, List.length_cons, List.length_nil, Nat.reduceAdd, Nat.reduceSub, List.replicate, List.cons_append, List.nil_append, List.getElem?_cons_zero, List.getElem?_cons_succ, List.set_cons_zero, List.set_cons_succ, ex_some, ex_some1, ex_bl, ex_int, at3_0, at3_1, at3_2, at2_0, at2_1, lstOf_last, decide_eq_true_eq, we_get1, we_get2, we_callV, we_fnc, we_dictT, wg_putX, hs2, hb1, hb2, List.length_map, set_2 hS2, h1, h2, f5, if_true, true_and, and_self, decide_true]
          have d0 := Int.emod_nonneg (if k < 0 then -k else k) (show m ≠ 0 by omega)
          have d1 := Int.emod_lt_of_pos (if k < 0 then -k else k) h1
          refine .inr ⟨_, rfl, ⟨((if k < 0 then -k else k) % m).toNat, by rw [Int.toNat_of_nonneg d0], by rw [Int.toNat_of_nonneg d0]; exact d1⟩, ⟨a + 1, (if k < 0 then -k else k) / m, get_setL hS2, Fn.set.lst (by decide) hs2, by omega, by omega, Int.ediv_nonneg (by split <;> omega) (by omega)⟩, f02.trans Fn.set⟩
        · simp only [wo_run, ws_seq, ws_if, wt_e, we_op, we_un, we_var, we_c, ws_asg, ws_ret, ws_drop, ws_next, ws_break, ws_cont, wg_name, wg_sub, wg_tup, wg_nil, wg_cons, wg_dput, we_call, we_methL, we_methS, wa_cons, wa_nil, wt_and, wt_or, wt_not, we_and, we_or, we_not, we_if, wo_I0, wo_I, wo_plusAI, wo_plusAT, we_slA, wp_none, wp_some, ex_int1, wo_slT, wo_intAB, wo_times, wo_ixT, wo_ixL, wo_ixAT, wo_ixAL, wo_ixAS, wo_lenT, wo_lenL, wo_lenAT, wo_lenAL, wo_lenAS, wo_abs, wo_intB, wo_tup, wo_lst, wo_tupleL, wo_eqI, wo_eqB, wo_eqSt, wo_neS, wo_neB, wo_neI, wo_is, wo_isnot, wo_str, wo_isI_bl, wo_isI_int, wo_isI_str, wo_isI_tup, wo_isI_non, isI_same, List.map_cons, List.map_nil, List.length_cons, List.length_nil, Nat.reduceAdd, Nat.reduceSub, List.replicate, List.cons_append, List.nil_append, List.getElem?_cons_zero, List.getElem?_cons_succ, List.set_cons_zero, List.set_cons_succ, ex_some, ex_some1, ex_bl, ex_int, at3_0, at3_1, at3_2, at2_0, at2_1, lstOf_last, decide_eq_true_eq, we_get1, we_get2, we_callV, we_fnc, we_dictT, wg_putX, hs2, hb1, hb2, List.length_map, f5, if_true, if_false, true_and, and_self, decide_true, decide_false, Bool.false_eq_true]
          first | exact .inl ⟨(by first | rfl | trivial), k, rfl, (by first | rfl | trivial)⟩ | exact .inl ⟨k, rfl⟩ | exact .inl ⟨k, rfl, (by first | rfl | trivial)⟩ | exact .inl ⟨(by first | rfl | trivial), k, rfl⟩
      · simp only [wo_run, ws_seq, ws_if, wt_e, we_op, we_un, we_var, we_c, ws_asg, ws_ret, ws_drop, ws_next, ws_break, ws_cont, wg_name, wg_sub, wg_tup, wg_nil, wg_cons, wg_dput, we_call, we_methL, we_methS, wa_cons, wa_nil, wt_and, wt_or, wt_not, we_and, we_or, we_not, we_if, wo_I0, wo_I, wo_plusAI, wo_plusAT, we_slA, wp_none, wp_some, ex_int1, wo_slT, wo_intAB, wo_times, wo_ixT, wo_ixL, wo_ixAT, wo_ixAL, wo_ixAS, wo_lenT, wo_lenL, wo_lenAT, wo_lenAL, wo_lenAS, wo_abs, wo_intB, wo_tup, wo_lst, wo_tupleL, wo_eqI, wo_eqB, wo_eqSt, wo_neS, wo_neB, wo_neI, wo_is, wo_isnot, wo_str, wo_isI_bl, wo_isI_int, wo_isI_str, wo_isI_tup, wo_isI_non, isI_same, List.map_cons, List.map_nil, List.length_cons, List.length_nil, Nat.reduceAdd, Nat.reduceSub, List.replicate, List.cons_append, List.nil_append, List.getElem?_cons_zero, List.getElem?_cons_succ, List.set_cons_zero, List.set_cons_succ, ex_some, ex_some1, ex_bl, ex_int, at3_0, at3_1, at3_2, at2_0, at2_1, lstOf_last, decide_eq_true_eq, we_get1, we_get2, we_callV, we_fnc, we_dictT, wg_putX, hs2, hb1, List.length_map, f5, if_true, if_false, true_and, and_self, decide_true, decide_false, Bool.false_eq_true]
        first | exact .inl ⟨(by first | rfl | trivial), k, rfl, (by first | rfl | trivial)⟩ | exact .inl ⟨k, rfl⟩ | exact .inl ⟨k, rfl, (by first | rfl | trivial)⟩ | exact .inl ⟨(by first | rfl | trivial), k, rfl⟩
    · simp only [wo_run, ws_seq, ws_if, wt_e, we_op, we_un, we_var, we_c, ws_asg, ws_ret, ws_drop, ws_next, ws_break, ws_cont, wg_name, wg_sub, wg_tup, wg_nil, wg_cons, wg_dput, we_call, we_methL, we_methS, wa_cons, wa_nil, wt_and, wt_or, wt_not, we_and, we_or, we_not, we_if, wo_I0, wo_I, wo_plusAI, wo_plusAT, we_slA, wp_none, wp_some, ex_int1, wo_slT, wo_intAB, wo_times, wo_ixT, wo_ixL, wo_ixAT, wo_ixAL, wo_ixAS, wo_lenT, wo_lenL, wo_lenAT, wo_lenAL, wo_lenAS, wo_abs, wo_intB, wo_tup, wo_lst, wo_tupleL, wo_eqI, wo_eqB, wo_eqSt, wo_neS, wo_neB, wo_neI, wo_is, wo_isnot, wo_str, wo_isI_bl, wo_isI_int, wo_isI_str, wo_isI_tup, wo_isI_non, isI_same, List.map_cons, List.map_nil, List.length_cons, List.length_nil, Nat.reduceAdd, Nat.reduceSub, List.replicate, List.cons_append, List.nil_append, List.getElem?_cons_zero, List.getElem?_cons_succ, List.set_cons_zero, List.set_cons_succ, ex_some, ex_some1, ex_bl, ex_int, at3_0, at3_1, at3_2, at2_0, at2_1, lstOf_last, decide_eq_true_eq, we_get1, we_get2, we_callV, we_fnc, we_dictT, wg_putX, hs2, hl, List.length_map, if_false, decide_false, Bool.false_eq_true]
      first | exact .inl ⟨(by first | rfl | trivial), _, rfl, (by first | rfl | trivial)⟩ | exact .inl ⟨_, rfl⟩ | exact .inl ⟨_, rfl, (by first | rfl | trivial)⟩ | exact .inl ⟨(by first | rfl | trivial), _, rfl⟩
  rintro l S4 ⟨k, rfl, rfl⟩
  obtain ⟨p1, hp1, p1a, p1b⟩ := prime_at (a % 5) (by omega) (by omega)
  refine ws_cut (fun l S' => l = [some (.ref 1), some (.int m), none, some (.ref 0), some (.int a), some (.int k), some (.int p1), none] ∧ Gr S4 S') ?_ ?_
  · simp only [wo_run, ws_seq, ws_if, wt_e, we_op, we_un, we_var, we_c, ws_asg, ws_ret, ws_drop, ws_next, ws_break, ws_cont, wg_name, wg_sub, wg_tup, wg_nil, wg_cons, wg_dput, we_call, we_methL, we_methS, wa_cons, wa_nil, wt_and, wt_or, wt_not, we_and, we_or, we_not, we_if, wo_I0, wo_I, wo_plusAI, wo_plusAT, we_slA, wp_none, wp_some, ex_int1, wo_slT, wo_intAB, wo_times, wo_ixT, wo_ixL, wo_ixAT, wo_ixAL, wo_ixAS, wo_lenT, wo_lenL, wo_lenAT, wo_lenAL, wo_lenAS, wo_abs, wo_intB, wo_tup, wo_lst, wo_tupleL, wo_eqI, wo_eqB, wo_eqSt, wo_neS, wo_neB, wo_neI, wo_is, wo_isnot, wo_str, wo_isI_bl, wo_isI_int, wo_isI_str, wo_isI_tup, wo_isI_non, isI_same, List.map_cons, List.map_nil, List.length_cons, List.length_nil, Nat.reduceAdd, Nat.reduceSub, List.replicate, List.cons_append, List.nil_append, List.getElem?_cons_zero, List.getElem?_cons_succ, List.set_cons_zero, List.set_cons_succ, ex_some, ex_some1, ex_bl, ex_int, at3_0, at3_1, at3_2, at2_0, at2_1, lstOf_last, decide_eq_true_eq, we_get1, we_get2, we_callV, we_fnc, we_dictT, wg_putX, hp1, f7, sz5, decide_true, true_and, and_self]
    first | exact ⟨(by first | rfl | trivial), (by first | rfl | trivial), ⟨_, rfl⟩⟩ | exact ⟨(by first | rfl | trivial), ⟨_, rfl⟩⟩ | exact ⟨_, rfl⟩
  rintro l S5 ⟨rfl, g5⟩
  have q1 : 0 ≤ k % p1 := Int.emod_nonneg _ (by omega)
  have q2 : k % p1 < p1 := Int.emod_lt_of_pos _ p1a
  refine ws_cut (fun l S' => ∃ n1 : Int, 0 ≤ n1 ∧ n1 < p1 ∧ l = [some (.ref 1), some (.int m), none, some (.ref 0), some (.int a), some (.int k), some (.int p1), some (.int n1)] ∧ S' = S5) ?_ ?_
  · obtain ⟨n0, e0⟩ : ∃ n0, k % p1 + 45007 * a + 37 = n0 := ⟨_, rfl⟩
    have q3 : (0 : Int) ≤ 3 ∧ (3 : Int) ≤ 1000000 ∧ n0.natAbs < 2 ^ 64 := ⟨by decide, by decide, by omega⟩
    simp only [wo_run, ws_seq, ws_if, wt_e, we_op, we_un, we_var, we_c, ws_asg, ws_ret, ws_drop, ws_next, ws_break, ws_cont, wg_name, wg_sub, wg_tup, wg_nil, wg_cons, wg_dput, we_call, we_methL, we_methS, wa_cons, wa_nil, wt_and, wt_or, wt_not, we_and, we_or, we_not, we_if, wo_I0, wo_I, wo_plusAI, wo_plusAT, we_slA, wp_none, wp_some, ex_int1, wo_slT, wo_intAB, wo_times, wo_ixT, wo_ixL, wo_ixAT, wo_ixAL, wo_ixAS, wo_lenT, wo_lenL, wo_lenAT, wo_lenAL, wo_lenAS, wo_abs, wo_intB, wo_tup, wo_lst, wo_tupleL, wo_eqI, wo_eqB, wo_eqSt, wo_neS, wo_neB, wo_neI, wo_is, wo_isnot, wo_str, wo_isI_bl, wo_isI_int, wo_isI_str, wo_isI_tup, wo_isI_non, isI_same, List.map_cons, List.map_nil, List.length_cons, List.length_nil, Nat.reduceAdd, Nat.reduceSub, List.replicate, List.cons_append, List.nil_append, List.getElem?_cons_zero, List.getElem?_cons_succ, List.set_cons_zero, List.set_cons_succ, ex_some, ex_some1, ex_bl, ex_int, at3_0, at3_1, at3_2, at2_0, at2_1, lstOf_last, decide_eq_true_eq, we_get1, we_get2, we_callV, we_fnc, we_dictT, wg_putX, f2, p1a, e0, q3, decide_true, true_or, true_and, and_true]
    exact ⟨_, Int.emod_nonneg _ (by omega), Int.emod_lt_of_pos _ p1a, rfl⟩
  rintro l S6 ⟨n1, n0, n2, rfl, rfl⟩
  refine ws_cut (fun l S' => ∃ n1 : Int, l = [some (.ref 1), some (.int m), none, some (.ref 0), some (.int a), some (.int k), some (.int p1), some (.int n1)] ∧ S' = S6) ?_ ?_
  · have f3 : (-(2 ^ 64) : Int) < n1 ∧ n1 < 2 ^ 64 := by omega
    have q6 : n1 * (a + 53) ≤ 2147483648 * 1000000061 := Int.mul_le_mul (by omega) (by omega) (by omega) (by omega)
    have q7 : 0 ≤ n1 * (a + 53) := Int.mul_nonneg (by omega) (by omega)
    have q8 : (0 : Int) ≤ 3 ∧ (3 : Int) ≤ 1000000 ∧ (n1 * (a + 53) + 1231).natAbs < 2 ^ 64 := ⟨by decide, by decide, by omega⟩
    have f8 : (0 : Int) < 2147483579 := by decide
    simp only [wo_run, ws_seq, ws_if, wt_e, we_op, we_un, we_var, we_c, ws_asg, ws_ret, ws_drop, ws_next, ws_break, ws_cont, wg_name, wg_sub, wg_tup, wg_nil, wg_cons, wg_dput, we_call, we_methL, we_methS, wa_cons, wa_nil, wt_and, wt_or, wt_not, we_and, we_or, we_not, we_if, wo_I0, wo_I, wo_plusAI, wo_plusAT, we_slA, wp_none, wp_some, ex_int1, wo_slT, wo_intAB, wo_times, wo_ixT, wo_ixL, wo_ixAT, wo_ixAL, wo_ixAS, wo_lenT, wo_lenL, wo_lenAT, wo_lenAL, wo_lenAS, wo_abs, wo_intB, wo_tup, wo_lst, wo_tupleL, wo_eqI, wo_eqB, wo_eqSt, wo_neS, wo_neB, wo_neI, wo_is, wo_isnot, wo_str, wo_isI_bl, wo_isI_int, wo_isI_str, wo_isI_tup, wo_isI_non, isI_same, List.map_cons, List.map_nil, List.length_cons, List.length_nil, Nat.reduceAdd, Nat.reduceSub, List.replicate, List.cons_append, List.nil_append, List.getElem?_cons_zero, List.getElem?_cons_succ, List.set_cons_zero, List.set_cons_succ, ex_some, ex_some1, ex_bl, ex_int, at3_0, at3_1, at3_2, at2_0, at2_1, lstOf_last, decide_eq_true_eq, we_get1, we_get2, we_callV, we_fnc, we_dictT, wg_putX, f3, f8, q8, decide_true, true_or, true_and, and_true]
    exact ⟨_, rfl⟩
  rintro l S7 ⟨n3, rfl, rfl⟩
  have f6 : (0 : Int) < 64 ∧ (64 : Int) < 1073741824 := by decide
  simp only [wo_run, ws_seq, ws_if, wt_e, we_op, we_un, we_var, we_c, ws_asg, ws_ret, ws_drop, ws_next, ws_break, ws_cont, wg_name, wg_sub, wg_tup, wg_nil, wg_cons, wg_dput, we_call, we_methL, we_methS, wa_cons, wa_nil, wt_and, wt_or, wt_not, we_and, we_or, we_not, we_if, wo_I0, wo_I, wo_plusAI, wo_plusAT, we_slA, wp_none, wp_some, ex_int1, wo_slT, wo_intAB, wo_times, wo_ixT, wo_ixL, wo_ixAT, wo_ixAL, wo_ixAS, wo_lenT, wo_lenL, wo_lenAT, wo_lenAL, wo_lenAS, wo_abs, wo_intB, wo_tup, wo_lst, wo_tupleL, wo_eqI, wo_eqB, wo_eqSt, wo_neS, wo_neB, wo_neI, wo_is, wo_isnot, wo_str, wo_isI_bl, wo_isI_int, wo_isI_str, wo_isI_tup, wo_isI_non, isI_same, List.map_cons, List.map_nil, List.length_cons, List.length_nil, Nat.reduceAdd, Nat.reduceSub, List.replicate, List.cons_append, List.nil_append, List.getElem?_cons_zero, List.getElem?_cons_succ, List.set_cons_zero, List.set_cons_succ, ex_some, ex_some1, ex_bl, ex_int, at3_0, at3_1, at3_2, at2_0, at2_1, lstOf_last, decide_eq_true_eq, we_get1, we_get2, we_callV, we_fnc, we_dictT, wg_putX, f6, h1, h2, decide_true, true_and, and_self]
  have d0 := Int.emod_nonneg (n3 / 64) (show m ≠ 0 by omega)
  have d1 := Int.emod_lt_of_pos (n3 / 64) h1
  exact ⟨⟨(n3 / 64 % m).toNat, by rw [Int.toNat_of_nonneg d0], by rw [Int.toNat_of_nonneg d0]; exact d1⟩, ⟨a + 1, r, g5.get hS2, g5.lst hs2, by omega, by omega, r0⟩, f02.trans (Fn.gr g5)⟩
end M
namespace M
open PySem L3 G
abbrev Rm := List (Nat × Nat)
def cD (c : Nat × Nat) : D := .tup [.int c.1, .int c.2]
def rmD (r : Rm) : D := .tup (r.map cD)
def rsD (rs : List Rm) : D := .tup (rs.map rmD)
def OkR (A many : Nat) (r : Rm) : Prop := r.length = A ∧ ∀ c ∈ r, c.1 < many ∧ c.2 < 8
structure OkS (A : Nat) (rs : List Rm) : Prop where
  n1 : 1 ≤ rs.length
  n5 : rs.length ≤ 5
  ok : ∀ r ∈ rs, OkR A rs.length r
theorem ex_ok {α : Type} {x : α} : (∃ y, some x = some y) = True := by simp
theorem sizeBig : 1000000 ≤ sizeLine := by decide
theorem Fn.setN {A B : Sto} {n : Nat} {o : Ob} (h : Fn A B) (hn : A.length ≤ n) : Fn A (B.set n o) := fun j o' hj e => by
  have : j < A.length := (List.getElem?_eq_some_iff.mp e).1
  rw [List.getElem?_set_ne (by omega)]; exact h j o' hj e
theorem PQ.lt {ns : List Int} {c : Nat} {A : Sto} (h : PQ ns c A) : 2 ≤ A.length := by
  obtain ⟨x, y, e, _⟩ := h
  have := (List.getElem?_eq_some_iff.mp e).1
  omega
theorem PQ.setN {ns : List Int} {c : Nat} {A : Sto} {n : Nat} {o : Ob} (h : PQ ns c A) (hn : 2 ≤ n) : PQ ns c (A.set n o) := by
  obtain ⟨x, y, e, f, r⟩ := h
  refine ⟨x, y, by rw [List.getElem?_set_ne (by omega)]; exact e, ?_, r⟩
  unfold lstOf at f ⊢
  rw [List.getElem?_set_ne (by omega)]; exact f
theorem lift_cells {A : Nat} {many : Nat} : ∀ {vs : List D}, (∀ v ∈ vs, ∃ c : Nat × Nat, v = cD c ∧ c.1 < many ∧ c.2 < 8) → ∃ r : Rm, vs = r.map cD ∧ ∀ c ∈ r, c.1 < many ∧ c.2 < 8
  | [], _ => ⟨[], rfl, fun c hc => by cases hc⟩
  | v :: vs, h => by
    obtain ⟨c, e, hc⟩ := h v List.mem_cons_self
    obtain ⟨r, e2, hr⟩ := lift_cells (A := A) (vs := vs) fun w hw => h w (List.mem_cons_of_mem _ hw)
    refine ⟨c :: r, by rw [e, e2]; rfl, fun d hd => ?_⟩
    rcases List.mem_cons.mp hd with rfl | hd
    · exact hc
    · exact hr d hd
theorem pick3 {a b c : Int} (i : Nat) (h1 : (i : Int) < 3) : ∃ x, L2.atI [D.int a, D.int b, D.int c] (i : Int) = some (.int x) ∧ (x = a ∨ x = b ∨ x = c) := by
  have : i = 0 ∨ i = 1 ∨ i = 2 := by omega
  rcases this with rfl | rfl | rfl
  · exact ⟨a, rfl, by simp⟩
  · exact ⟨b, rfl, by simp⟩
  · exact ⟨c, rfl, by simp⟩
theorem small_ok {ns : List Int} {c A : Nat} {S : Sto} (h : PQ ns c S) (hc : c < 90000000) (hA : A ≤ 4) : Wo (m_law_small [.ref 1, .int A, .int 5] S) fun v S' => (∃ rs, v = rsD rs ∧ OkS A rs) ∧ PQ ns (c + 100) S' ∧ Fn S S' := by
  have sz := sizeBig
  unfold m_law_small b_law_small
  simp only [wo_run, List.map_cons, List.map_nil, List.length_cons, List.length_nil, Nat.reduceAdd, Nat.reduceSub, List.replicate, List.cons_append, List.nil_append]
  refine ws_cut (fun l S' => PQ ns (c + 1) S' ∧ Fn S S' ∧ ∃ many : Nat, 1 ≤ many ∧ many ≤ 5 ∧ l = [some (.ref 1), some (.int A), some (.int 5), some (.int many), none, none, none]) ?_ ?_
  · simp only [ws_asg, we_op, we_c, we_call, wa_cons, wa_nil, we_var, List.getElem?_cons_zero, List.getElem?_cons_succ, ex_some]
    refine (draw_ok h (by omega) (by decide) (by decide)).mono ?_
    rintro x S1 ⟨⟨d, rfl, hd⟩, p, f⟩
    simp only [wo_plusAI, wg_name, List.set_cons_zero, List.set_cons_succ]
    first | exact ⟨(by first | rfl | trivial), p, f, 1 + d, by omega, by omega, by simp⟩ | exact ⟨p, f, 1 + d, by omega, by omega, by simp⟩
  rintro l S1 ⟨p1, f1, many, m1, m5, rfl⟩
  refine ws_cut (fun l S' => PQ ns (c + 2) S' ∧ Fn S S' ∧ ∃ an : Nat, 1 ≤ an ∧ an ≤ 8 ∧ l = [some (.ref 1), some (.int A), some (.int 5), some (.int many), some (.int an), none, none]) ?_ ?_
  · simp only [ws_asg, we_op, we_c, we_call, wa_cons, wa_nil, we_var, List.getElem?_cons_zero, List.getElem?_cons_succ, ex_some, wo_lst, List.length_cons, List.length_nil]
    refine ⟨by omega, ?_⟩
    refine (draw_ok (p1.gr ⟨_, rfl⟩) (by omega) (by decide) (by decide)).mono ?_
    rintro x S2 ⟨⟨d, rfl, hd⟩, p, f⟩
    obtain ⟨x, hx, hx2⟩ := pick3 (a := 2) (b := 3) (c := 8) d hd
    have e : lstOf S2 S1.length = some [.int 2, .int 3, .int 8] := f.lst (by have := p1.lt; omega) lstOf_last
    simp only [wo_ixAL, e, ex_some1, hx, wg_name, List.set_cons_zero, List.set_cons_succ]
    first | exact ⟨(by first | rfl | trivial), p.mono (by omega), f1.trans ((Fn.gr ⟨_, rfl⟩).trans f), x.toNat, by omega, by omega, by rw [Int.toNat_of_nonneg (by omega)]⟩ | exact ⟨p.mono (by omega), f1.trans ((Fn.gr ⟨_, rfl⟩).trans f), x.toNat, by omega, by omega, by rw [Int.toNat_of_nonneg (by omega)]⟩
  rintro l S2 ⟨p2, f2, an, an1, an8, rfl⟩
  refine ws_cut (fun l S' => l = [some (.ref 1), some (.int A), some (.int 5), some (.int many), some (.int an), some (.ref S2.length), none] ∧ S' = S2 ++ [.lst []]) (by simp only [wo_run, ws_seq, ws_if, wt_e, we_op, we_un, we_var, we_c, ws_asg, ws_ret, ws_drop, ws_next, ws_break, ws_cont, wg_name, wg_sub, wg_tup, wg_nil, wg_cons, wg_dput, we_call, we_methL, we_methS, wa_cons, wa_nil, wt_and, wt_or, wt_not, we_and, we_or, we_not, we_if, wo_I0, wo_I, wo_plusAI, wo_plusAT, we_slA, wp_none, wp_some, ex_int1, wo_slT, wo_intAB, wo_times, wo_ixT, wo_ixL, wo_ixAT, wo_ixAL, wo_ixAS, wo_lenT, wo_lenL, wo_lenAT, wo_lenAL, wo_lenAS, wo_abs, wo_intB, wo_tup, wo_lst, wo_tupleL, wo_eqI, wo_eqB, wo_eqSt, wo_neS, wo_neB, wo_neI, wo_is, wo_isnot, wo_str, wo_isI_bl, wo_isI_int, wo_isI_str, wo_isI_tup, wo_isI_non, isI_same, List.map_cons, List.map_nil, List.length_cons, List.length_nil, Nat.reduceAdd, Nat.reduceSub, List.replicate, List.cons_append, List.nil_append, List.getElem?_cons_zero, List.getElem?_cons_succ, List.set_cons_zero, List.set_cons_succ, ex_some, ex_some1, ex_bl, ex_int, at3_0, at3_1, at3_2, at2_0, at2_1, lstOf_last, decide_eq_true_eq, we_get1, we_get2, we_callV, we_fnc, we_dictT, wg_putX]; exact ⟨by omega, (by first | rfl | trivial), (by first | rfl | trivial)⟩) ?_
  rintro l S3 ⟨rfl, rfl⟩
  have l2 := p2.lt
  have hSl : S.length ≤ S2.length := by
    rcases Nat.lt_or_ge S2.length S.length with z | z
    · have hz : S2.length ≠ 1 := by omega
      have := f2 S2.length _ hz (List.getElem?_eq_getElem z)
      rw [List.getElem?_eq_none (Nat.le_refl _)] at this; cases this
    · exact z
  refine ws_cut (fun l S' => ∃ rs x6, OkS A rs ∧ l = [some (.ref 1), some (.int A), some (.int 5), some (.int many), some (.int an), some (.ref S2.length), x6] ∧ S'[S2.length]? = some (.lst (rs.map rmD)) ∧ PQ ns (c + 2 + 9 * 5) S' ∧ Fn S S') ?_ ?_
  · refine ws_rng (fun i l S' => ∃ rs x6, rs.length = i ∧ (∀ r ∈ rs, OkR A many r) ∧ l = [some (.ref 1), some (.int A), some (.int 5), some (.int many), some (.int an), some (.ref S2.length), x6] ∧ S'[S2.length]? = some (.lst (rs.map rmD)) ∧ PQ ns (c + 2 + 9 * i) S' ∧ Fn S S') (fun _ _ => False) (n := many) rfl (by omega)
      ⟨[], none, rfl, (fun r hr => by cases hr), rfl, get_new, p2.gr ⟨_, rfl⟩, f2.trans (Fn.gr ⟨_, rfl⟩)⟩ ?_ ?_ (fun d l' S' z => z.elim)
    · rintro i l S4 hi ⟨rs, x6, hl, hok, rfl, hg, p4, f4⟩
      simp only [wg_name, List.set_cons_zero, List.set_cons_succ, ws_drop, we_methL, we_var, List.getElem?_cons_zero, List.getElem?_cons_succ, ex_some, recvL_of hg, ex_some1, wa_cons, wa_nil, we_call, ex_ok, true_and]
      refine we_compV (rngD 0 A) (fun v => ∃ c : Nat × Nat, v = cD c ∧ c.1 < many ∧ c.2 < 8) (fun j S' => PQ ns (c + 2 + 9 * i + 2 * j) S' ∧ S'[S2.length]? = some (.lst (rs.map rmD)) ∧ Fn S S') (fun l => ∃ x0, l = [x0, some (.ref 1), some (.int many), some (.int an)]) (rng_im (n := A) rfl (by omega)) ⟨p4, hg, f4⟩ ⟨_, rfl⟩ (fun _ _ _ => rfl) (by rw [rngD_len]; omega) ?_ ?_
      · rintro j x l S5 hx ⟨x0, rfl⟩ ⟨p5, hg5, f5⟩
        have hj := (rngD_get hx).1
        simp only [wg_name, List.set_cons_zero, List.set_cons_succ]
        refine ⟨⟨_, rfl⟩, ?_⟩
        simp only [we_call, wa_cons, wa_nil, we_var, List.getElem?_cons_zero, List.getElem?_cons_succ, ex_some]
        refine (draw_ok p5 (by omega) (by omega) (by omega)).mono ?_
        rintro u S6 ⟨⟨d, rfl, hd⟩, p6, f6⟩
        refine (draw_ok p6 (by omega) (by omega) (by omega)).mono ?_
        rintro u S7 ⟨⟨e, rfl, he⟩, p7, f7⟩
        simp only [wo_tup, List.length_cons, List.length_nil]
        exact ⟨by omega, ⟨(d, e), rfl, by show d < many; omega, by show e < 8; omega⟩, p7.mono (by omega), (f6.trans f7) _ _ (by omega) hg5, f5.trans (f6.trans f7)⟩
      · rintro vs S5 hl5 hv ⟨p5, hg5, f5⟩
        obtain ⟨r, rfl, hr⟩ := lift_cells (A := A) hv
        rw [rngD_len, List.length_map] at hl5
        rw [rngD_len] at p5
        have hg6 : (S5 ++ [.lst (r.map cD)])[S2.length]? = some (.lst (rs.map rmD)) := get_old hg5
        simp only [wo_tupleL, lstOf_last, ex_some1]
        rw [wo_app hg6 (by rw [List.length_map]; omega)]
        refine .inl ⟨(by first | exact .inl rfl | exact .inl trivial | trivial), rs ++ [r], _, by simp [hl], fun q hq => ?_, rfl, by rw [get_setL hg6]; simp [rmD], ((p5.gr ⟨_, rfl⟩).setN (by omega)).mono (by omega), (f5.trans (Fn.gr ⟨_, rfl⟩)).setN (by omega)⟩
        rcases List.mem_append.mp hq with hq | hq
        · exact hok q hq
        · have : q = r := by simpa using hq
          subst this
          exact ⟨hl5, hr⟩
    · rintro l' S' ⟨rs, x6, hl, hok, rfl, hg, p, f⟩
      first | exact ⟨(by first | rfl | trivial), rs, x6, ⟨by omega, by omega, by rw [hl]; exact hok⟩, rfl, hg, p.mono (by omega), f⟩ | exact ⟨rs, x6, ⟨by omega, by omega, by rw [hl]; exact hok⟩, rfl, hg, p.mono (by omega), f⟩
  rintro l S4 ⟨rs, x6, ok, rfl, hg, p4, f4⟩
  simp only [wo_run, ws_seq, ws_if, wt_e, we_op, we_un, we_var, we_c, ws_asg, ws_ret, ws_drop, ws_next, ws_break, ws_cont, wg_name, wg_sub, wg_tup, wg_nil, wg_cons, wg_dput, we_call, we_methL, we_methS, wa_cons, wa_nil, wt_and, wt_or, wt_not, we_and, we_or, we_not, we_if, wo_I0, wo_I, wo_plusAI, wo_plusAT, we_slA, wp_none, wp_some, ex_int1, wo_slT, wo_intAB, wo_times, wo_ixT, wo_ixL, wo_ixAT, wo_ixAL, wo_ixAS, wo_lenT, wo_lenL, wo_lenAT, wo_lenAL, wo_lenAS, wo_abs, wo_intB, wo_tup, wo_lst, wo_tupleL, wo_eqI, wo_eqB, wo_eqSt, wo_neS, wo_neB, wo_neI, wo_is, wo_isnot, wo_str, wo_isI_bl, wo_isI_int, wo_isI_str, wo_isI_tup, wo_isI_non, isI_same, List.map_cons, List.map_nil, List.length_cons, List.length_nil, Nat.reduceAdd, Nat.reduceSub, List.replicate, List.cons_append, List.nil_append, List.getElem?_cons_zero, List.getElem?_cons_succ, List.set_cons_zero, List.set_cons_succ, ex_some, ex_some1, ex_bl, ex_int, at3_0, at3_1, at3_2, at2_0, at2_1, lstOf_last, decide_eq_true_eq, we_get1, we_get2, we_callV, we_fnc, we_dictT, wg_putX, lst_of hg]
  exact ⟨⟨rs, rfl, ok⟩, p4.mono (by omega), f4⟩
end M
namespace M
open PySem L3 G
abbrev Rw := List Nat
def nD (a : Nat) : D := .int (a : Int)
def rowD (r : Rw) : D := .tup (r.map nD)
def pyN (a : Nat) : PyData := .int (a : Int)
def pyR (r : Rw) : PyData := .tuple (r.map pyN)
def SmR (r : Rw) : Prop := ∀ a ∈ r, a < 1000
theorem ws_if' {t : TM} {m n : SM} {l : Lo} {S : Sto} {Q : Fl → Lo → Sto → Prop} (R : Bool → Sto → Prop) (h : Wt t l S R) (h1 : ∀ S1, R true S1 → Ws m l S1 Q) (h2 : ∀ S1, R false S1 → Ws n l S1 Q) : Ws (sIf t m n) l S Q := by
  rw [ws_if]
  obtain ⟨k, S1, e, r⟩ := h
  refine ⟨k, S1, e, ?_⟩
  cases k with
  | true => exact h1 S1 r
  | false => exact h2 S1 r
theorem py_ns {S : Sto} {k : Nat} : ∀ {r : Rw}, SmR r → pyAll S (k + 1) (r.map nD) = some (r.map pyN)
  | [], _ => by unfold pyAll; rfl
  | a :: r, h => by
    rw [List.map_cons]
    unfold pyAll
    have e : pyOf S (k + 1) (nD a) = some (pyN a) := by
      unfold nD pyOf
      rw [if_pos (small_log2 (by have := h a List.mem_cons_self; omega))]; rfl
    show (pyOf S (k + 1) (nD a)).bind _ = _
    rw [e]
    show (pyAll S (k + 1) (r.map nD)).bind _ = _
    rw [py_ns (fun b hb => h b (List.mem_cons_of_mem _ hb))]; rfl
theorem py_row {S : Sto} {k : Nat} {r : Rw} (h : SmR r) : pyOf S (k + 2) (rowD r) = some (pyR r) := by
  unfold rowD pyOf
  rw [py_ns h]; rfl
theorem py_rows {S : Sto} {k : Nat} : ∀ {rs : List Rw}, (∀ r ∈ rs, SmR r) → pyAll S (k + 2) (rs.map rowD) = some (rs.map pyR)
  | [], _ => by unfold pyAll; rfl
  | r :: rs, h => by
    rw [List.map_cons]
    unfold pyAll
    show (pyOf S (k + 2) (rowD r)).bind _ = _
    rw [py_row (h r List.mem_cons_self)]
    show (pyAll S (k + 2) (rs.map rowD)).bind _ = _
    rw [py_rows (fun b hb => h b (List.mem_cons_of_mem _ hb))]; rfl
theorem lay_ns : ∀ r : Rw, PyData.canLayAll0 (r.map pyN) = true
  | [] => by simp [PyData.canLayAll0]
  | a :: r => by
    rw [List.map_cons]; simp only [PyData.canLayAll0, pyN, PyData.canLay0, Bool.true_and]; exact lay_ns r
theorem lay_row (r : Rw) : (pyR r).canLay0 = true := by
  unfold pyR; rw [PyData.canLay0]; exact lay_ns r
theorem lay_rows : ∀ rs : List Rw, PyData.canLayAll0 (rs.map pyR) = true
  | [] => by simp [PyData.canLayAll0]
  | r :: rs => by
    rw [List.map_cons]; simp only [PyData.canLayAll0, lay_row, Bool.true_and]; exact lay_rows rs
theorem eqv_ns : ∀ p q : Rw, PyData.eqvAll (p.map pyN) (q.map pyN) = decide (p = q)
  | [], [] => by simp [PyData.eqvAll]
  | [], _ :: _ => by simp [PyData.eqvAll]
  | _ :: _, [] => by simp [PyData.eqvAll]
  | a :: p, b :: q => by
    rw [List.map_cons, List.map_cons]
    simp only [PyData.eqvAll, pyN, PyData.eqv]
    have ih := eqv_ns p q
    rw [ih]
    by_cases e : a = b
    · subst e
      by_cases e2 : p = q <;> simp [e2]
    · have : ((a : Int) == (b : Int)) = false := by simp; omega
      rw [this]; simp [e]
theorem eqv_row (p q : Rw) : (pyR p).eqv (pyR q) = decide (p = q) := by
  unfold pyR; rw [PyData.eqv]; exact eqv_ns p q
theorem any_row (rs : List Rw) (p : Rw) : ((rs.map pyR).any fun q => q.eqv (pyR p)) = decide (p ∈ rs) := by
  induction rs with
  | nil => simp
  | cons r rs ih =>
    rw [List.map_cons, List.any_cons, ih, eqv_row]
    by_cases e : r = p
    · subst e; simp
    · have : ¬ p = r := fun z => e z.symm
      simp [e, this]
theorem wo_inD {S : Sto} {n : Nat} {neg : Bool} {rs : List Rw} {p : Rw} {Q : D → Sto → Prop} (h : lstOf S n = some (rs.map rowD)) (hr : ∀ r ∈ rs, SmR r) (hp : SmR p) : Wo (dInD neg (rowD p) (.ref n) S) Q = Q (.bl (if neg then !decide (p ∈ rs) else decide (p ∈ rs))) S := by
  have : dInD neg (rowD p) (.ref n) S = some (.bl (if neg then !decide (p ∈ rs) else decide (p ∈ rs)), S) := by
    unfold dInD
    show (lstOf S n).bind _ = _
    rw [h]
    show (pyOf S 60 (rowD p)).bind _ = _
    rw [py_row hp]
    show (pyAll S 60 (rs.map rowD)).bind _ = _
    rw [py_rows hr]
    show (if _ then _ else _) = _
    rw [if_pos ⟨lay_row p, lay_rows rs⟩, any_row]
  rw [this, wo_some]
abbrev En := Rw × List (Option Nat)
def oD : Option Nat → D
  | none => .non
  | some k => .int (k : Int)
def enD (e : En) : D := .tup [rowD e.1, .tup (e.2.map oD)]
structure OkE (e : En) : Prop where
  len : e.2.length = e.1.length
  l12 : e.1.length ≤ 12
  sm : SmR e.1
  an : ∀ k, some k ∈ e.2 → k < 8
def addR (acc : List Rw) (p : Rw) : List Rw := if p ∈ acc then acc else acc ++ [p]
def bgN (row : Rw) (acc : List Rw) (n : Nat) : List Rw := (List.range n).foldl (fun a i => addR a (row.take (i + 1))) acc
def bgR (acc : List Rw) (row : Rw) : List Rw := bgN row acc (row.length - 1)
def bg (sh : List En) : List Rw := sh.foldl (fun a e => bgR a e.1) [[]]
theorem bgN_succ (row : Rw) (acc : List Rw) (n : Nat) : bgN row acc (n + 1) = addR (bgN row acc n) (row.take (n + 1)) := by
  unfold bgN; rw [List.range_succ, List.foldl_append]; rfl
theorem take_sm {r : Rw} (h : SmR r) (k : Nat) : SmR (r.take k) := fun a ha => h a (List.mem_of_mem_take ha)
theorem addR_sm {acc : List Rw} {p : Rw} (h : ∀ r ∈ acc, SmR r) (hp : SmR p) : ∀ r ∈ addR acc p, SmR r := fun r hr => by
  unfold addR at hr
  split at hr
  · exact h r hr
  · rcases List.mem_append.mp hr with z | z
    · exact h r z
    · have : r = p := by simpa using z
      subst this; exact hp
theorem bgN_sm {row : Rw} {acc : List Rw} (h : ∀ r ∈ acc, SmR r) (hr : SmR row) : ∀ n, ∀ r ∈ bgN row acc n, SmR r
  | 0 => h
  | n + 1 => by rw [bgN_succ]; exact addR_sm (bgN_sm h hr n) (take_sm hr _)
theorem addR_len (acc : List Rw) (p : Rw) : (addR acc p).length ≤ acc.length + 1 := by unfold addR; split <;> simp
theorem bgN_len (row : Rw) (acc : List Rw) : ∀ n, (bgN row acc n).length ≤ acc.length + n
  | 0 => Nat.le_refl _
  | n + 1 => by rw [bgN_succ]; have := addR_len (bgN row acc n) (row.take (n + 1)); have := bgN_len row acc n; omega
theorem foldl_take {α β : Type} (f : β → α → β) (z : β) {xs : List α} {i : Nat} {x : α} (h : xs[i]? = some x) : (xs.take (i + 1)).foldl f z = f ((xs.take i).foldl f z) x := by
  rw [List.take_add_one, h, List.foldl_append]; rfl
theorem bg_sm {sh : List En} (h : ∀ e ∈ sh, OkE e) : ∀ i, ∀ r ∈ bg (sh.take i), SmR r := by
  intro i
  induction i with
  | zero => intro r hr; have : r = [] := by simpa [bg] using hr
            subst this; intro a ha; cases ha
  | succ i ih =>
    cases e : sh[i]? with
    | none => rw [List.take_add_one, e, Option.toList_none, List.append_nil]; exact ih
    | some x =>
      unfold bg at ih ⊢
      rw [foldl_take _ _ e]
      exact bgN_sm ih (h x (List.mem_of_getElem? e)).sm _
theorem bg_len {sh : List En} (h : ∀ e ∈ sh, OkE e) : ∀ i, (bg (sh.take i)).length ≤ 1 + 12 * i := by
  intro i
  induction i with
  | zero => simp [bg]
  | succ i ih =>
    cases e : sh[i]? with
    | none => rw [List.take_add_one, e, Option.toList_none, List.append_nil]; omega
    | some x =>
      unfold bg at ih ⊢
      rw [foldl_take _ _ e]
      have := bgN_len x.1 (List.foldl (fun a e => bgR a e.1) [[]] (sh.take i)) (x.1.length - 1)
      have := (h x (List.mem_of_getElem? e)).l12
      show (bgN x.1 _ _).length ≤ _; omega
theorem wo_slR {S : Sto} {r : Rw} {k : Nat} {Q : D → Sto → Prop} : Wo (slA (rowD r) none (some (k : Int)) S) Q = Q (rowD (r.take k)) S := by
  unfold rowD; rw [wo_slT, cutD_to, List.map_take]
theorem wo_lenR {S : Sto} {r : Rw} {Q : D → Sto → Prop} : Wo (fLenA [rowD r] S) Q = Q (.int (r.length : Int)) S := by
  unfold rowD; rw [wo_lenAT, List.length_map]
theorem ws_rng1n {g : GM} {b : SM} (P : Nat → Lo → Sto → Prop) {as : AM} {l : Lo} {S S1 : Sto} {n : Nat} {QS : Fl → Lo → Sto → Prop} (h : as l S = some ([.int 1, .int (n : Int)], S1)) (hn : n < 1000) (h0 : P 0 l S1)
    (step : ∀ (i : Nat) l S, i < n - 1 → P i l S → Wg (g (.int ((i + 1 : Nat) : Int)) l S) fun l1 S1 => Ws b l1 S1 fun f l2 S2 => (f = .nx ∨ f = .ct) ∧ P (i + 1) l2 S2)
    (fin : ∀ l' S', P (n - 1) l' S' → QS .nx l' S') : Ws (sForR (rng2 as) g b) l S QS := by
  have hb : ∀ z : Int, z = (n : Int) → 0 ≤ z ∧ z < 1000 := fun z hz => by omega
  have hr : ∀ z : Int, z = (n : Int) → rng2 as l S = some ((1, (z - 1).toNat), S1) := fun z hz => by
    have := hb z hz
    rw [← hz] at h
    clear hz hb
    unfold rng2; rw [h]; show (if _ then _ else _) = _; rw [if_pos (by omega)]
  have hr := hr _ rfl
  have e1 : ((n : Int) - 1).toNat = n - 1 := by omega
  rw [e1] at hr
  have := forX_out (g := g) (b := b) P (fun _ _ => False) (rngD 1 (n - 1)) 0 l S1 h0 (fun i x l S hx hp => by
    obtain ⟨hi, rfl⟩ := rngD_get hx
    rw [Nat.zero_add] at hp ⊢
    have := step i l S hi hp
    rw [show ((i + 1 : Nat) : Int) = 1 + (i : Int) by omega] at this
    obtain ⟨l1, S1, e1, f, l2, S2, e2, q⟩ := this
    exact ⟨l1, S1, e1, f, l2, S2, e2, .inl q⟩)
  rw [Nat.zero_add, rngD_len] at this
  obtain ⟨f, l', S', e, q⟩ := this
  refine ⟨f, l', S', by unfold sForR; rw [hr]; exact e, ?_⟩
  rcases q with ⟨rfl, h⟩ | ⟨d, _, h⟩
  · exact fin l' S' h
  · exact h.elim
theorem begun_ok {S : Sto} {n : Nat} {sh : List En} (h : lstOf S n = some (sh.map enD)) (ok : ∀ e ∈ sh, OkE e) (hl : sh.length ≤ 1000) : Wo (m_law_begun [.ref n] S) fun v S' => v = .ref S.length ∧ S' = S ++ [.lst ((bg sh).map rowD)] := by
  have sz := sizeBig
  have hn : n < S.length := by
    unfold lstOf at h
    rcases Nat.lt_or_ge n S.length with z | z
    · exact z
    · rw [List.getElem?_eq_none z] at h; cases h
  unfold m_law_begun b_law_begun
  simp only [wo_run, List.map_cons, List.map_nil, List.length_cons, List.length_nil, Nat.reduceAdd, Nat.reduceSub, List.replicate, List.cons_append, List.nil_append]
  refine ws_cut (fun l S' => l = [some (.ref n), some (.ref S.length), none, none, none] ∧ S' = S ++ [.lst [rowD []]]) ?_ ?_
  · simp only [wo_run, ws_seq, ws_if, wt_e, we_op, we_un, we_var, we_c, ws_asg, ws_ret, ws_drop, ws_next, ws_break, ws_cont, wg_name, wg_sub, wg_tup, wg_nil, wg_cons, wg_dput, we_call, we_methL, we_methS, wa_cons, wa_nil, wt_and, wt_or, wt_not, we_and, we_or, we_not, we_if, wo_I0, wo_I, wo_plusAI, wo_plusAT, we_slA, wp_none, wp_some, ex_int1, wo_slT, wo_intAB, wo_times, wo_ixT, wo_ixL, wo_ixAT, wo_ixAL, wo_ixAS, wo_lenT, wo_lenL, wo_lenAT, wo_lenAL, wo_lenAS, wo_abs, wo_intB, wo_tup, wo_lst, wo_tupleL, wo_eqI, wo_eqB, wo_eqSt, wo_neS, wo_neB, wo_neI, wo_is, wo_isnot, wo_str, wo_isI_bl, wo_isI_int, wo_isI_str, wo_isI_tup, wo_isI_non, isI_same, List.map_cons, List.map_nil, List.length_cons, List.length_nil, Nat.reduceAdd, Nat.reduceSub, List.replicate, List.cons_append, List.nil_append, List.getElem?_cons_zero, List.getElem?_cons_succ, List.set_cons_zero, List.set_cons_succ, ex_some, ex_some1, ex_bl, ex_int, at3_0, at3_1, at3_2, at2_0, at2_1, lstOf_last, decide_eq_true_eq, we_get1, we_get2, we_callV, we_fnc, we_dictT, wg_putX]
    exact ⟨by omega, by omega, (by first | rfl | trivial), (by first | rfl | trivial)⟩
  rintro l S1 ⟨rfl, rfl⟩
  refine ws_cut (fun l S' => ∃ x2 x3 x4, l = [some (.ref n), some (.ref S.length), x2, x3, x4] ∧ S' = S ++ [.lst ((bg sh).map rowD)]) ?_ ?_
  · refine ws_forLst (n := n) (sh.map enD) (fun i l S' => ∃ x2 x3 x4, l = [some (.ref n), some (.ref S.length), x2, x3, x4] ∧ S' = S ++ [.lst ((bg (sh.take i)).map rowD)]) (fun _ _ => False) rfl ⟨_, _, _, rfl, rfl⟩ ?_ ?_ ?_ (fun d l' S' z => z.elim)
    · rintro i l S' ⟨x2, x3, x4, rfl, rfl⟩
      exact Gr.lst ⟨_, rfl⟩ h
    · rintro i x l S2 hx ⟨x2, x3, x4, rfl, rfl⟩
      rw [List.getElem?_map] at hx
      obtain ⟨e, he, rfl⟩ := Option.map_eq_some_iff.mp hx
      have ke := ok e (List.mem_of_getElem? he)
      have hi : i < sh.length := (List.getElem?_eq_some_iff.mp he).1
      unfold enD
      simp only [wg_tup, wg_cons, wg_nil, wg_name, List.length_cons, List.length_nil, List.set_cons_zero, List.set_cons_succ]
      refine ⟨by first | rfl | trivial, ?_⟩
      have hsm := bg_sm ok i
      have hbl := bg_len ok i
      have l12 := ke.l12
      refine ws_rng1n (fun j l S' => ∃ x4, l = [some (.ref n), some (.ref S.length), some (rowD e.1), some (.tup (e.2.map oD)), x4] ∧ S' = S ++ [.lst ((bgN e.1 (bg (sh.take i)) j).map rowD)]) (n := e.1.length) (S1 := S ++ [.lst ((bg (sh.take i)).map rowD)]) (by show some ([D.int 1, D.int ((e.1.map nD).length : Int)], _) = _; rw [List.length_map]) (by omega) ⟨_, rfl, rfl⟩ ?_ ?_
      · rintro j l S3 hj ⟨x4, rfl, rfl⟩
        simp only [wg_name, List.set_cons_zero, List.set_cons_succ]
        have e2 : lstOf (S ++ [.lst ((bgN e.1 (bg (sh.take i)) j).map rowD)]) S.length = some ((bgN e.1 (bg (sh.take i)) j).map rowD) := lstOf_last
        have hs2 := bgN_sm hsm ke.sm j
        have hb2 := bgN_len e.1 (bg (sh.take i)) j
        refine ws_if' (fun b S' => b = !decide (e.1.take (j + 1) ∈ bgN e.1 (bg (sh.take i)) j) ∧ S' = S ++ [.lst ((bgN e.1 (bg (sh.take i)) j).map rowD)]) ?_ ?_ ?_
        · simp only [wt_e, we_op, we_slA, wp_none, wp_some, we_var, List.getElem?_cons_zero, List.getElem?_cons_succ, ex_some, ex_int1]
          rw [wo_slR, wo_inD e2 hs2 (take_sm ke.sm _)]
          exact ⟨_, rfl, rfl, rfl⟩
        · rintro S4 ⟨hb, rfl⟩
          have hb : e.1.take (j + 1) ∉ bgN e.1 (bg (sh.take i)) j := by simpa using hb
          simp only [ws_drop, we_methL, we_var, List.getElem?_cons_zero, List.getElem?_cons_succ, ex_some, recvL_of get_new, ex_ok, true_and, wa_cons, wa_nil, we_slA, wp_none, wp_some, ex_int1]
          rw [wo_slR, wo_app get_new (by rw [List.length_map]; omega), set_last]
          refine ⟨(by first | exact .inl rfl | exact .inl trivial | trivial), _, rfl, ?_⟩
          rw [bgN_succ]; unfold addR; rw [if_neg hb]; simp
        · rintro S4 ⟨hb, rfl⟩
          have hb : e.1.take (j + 1) ∈ bgN e.1 (bg (sh.take i)) j := by simpa using hb
          rw [ws_next]
          refine ⟨.inl rfl, _, rfl, ?_⟩
          rw [bgN_succ]; unfold addR; rw [if_pos hb]
      · rintro l' S' ⟨x4, rfl, rfl⟩
        refine .inl ⟨.inl rfl, _, _, _, rfl, ?_⟩
        unfold bg
        rw [foldl_take _ _ he]; rfl
    · rintro l' S' ⟨x2, x3, x4, rfl, rfl⟩
      refine ⟨rfl, _, _, _, rfl, ?_⟩
      rw [List.length_map, List.take_length]
  rintro l S1 ⟨x2, x3, x4, rfl, rfl⟩
  simp only [wo_run, ws_seq, ws_if, wt_e, we_op, we_un, we_var, we_c, ws_asg, ws_ret, ws_drop, ws_next, ws_break, ws_cont, wg_name, wg_sub, wg_tup, wg_nil, wg_cons, wg_dput, we_call, we_methL, we_methS, wa_cons, wa_nil, wt_and, wt_or, wt_not, we_and, we_or, we_not, we_if, wo_I0, wo_I, wo_plusAI, wo_plusAT, we_slA, wp_none, wp_some, ex_int1, wo_slT, wo_intAB, wo_times, wo_ixT, wo_ixL, wo_ixAT, wo_ixAL, wo_ixAS, wo_lenT, wo_lenL, wo_lenAT, wo_lenAL, wo_lenAS, wo_abs, wo_intB, wo_tup, wo_lst, wo_tupleL, wo_eqI, wo_eqB, wo_eqSt, wo_neS, wo_neB, wo_neI, wo_is, wo_isnot, wo_str, wo_isI_bl, wo_isI_int, wo_isI_str, wo_isI_tup, wo_isI_non, isI_same, List.map_cons, List.map_nil, List.length_cons, List.length_nil, Nat.reduceAdd, Nat.reduceSub, List.replicate, List.cons_append, List.nil_append, List.getElem?_cons_zero, List.getElem?_cons_succ, List.set_cons_zero, List.set_cons_succ, ex_some, ex_some1, ex_bl, ex_int, at3_0, at3_1, at3_2, at2_0, at2_1, lstOf_last, decide_eq_true_eq, we_get1, we_get2, we_callV, we_fnc, we_dictT, wg_putX]
  all_goals first | trivial | exact ⟨(by first | rfl | trivial), (by first | rfl | trivial)⟩
end M
namespace M
open PySem L3 G
def stp (rs : List Rm) (s a : Nat) : Nat := ((rs.getD s []).getD a (0, 0)).1
def run (rs : List Rm) (q : Rw) : Nat := q.foldl (stp rs) 0
def tel (rs : List Rm) (p : Rw) : Nat := ((rs.getD (run rs p.dropLast) []).getD (p.getLastD 0) (0, 0)).2
def Cs (f : Rw → Nat) (e : En) : Prop := ∀ (i k : Nat), e.2[i]? = some (some k) → k = f (e.1.take (i + 1))
theorem OkS.cell {A : Nat} {rs : List Rm} (h : OkS A rs) {s a : Nat} (hs : s < rs.length) (ha : a < A) : ∃ r c, rs[s]? = some r ∧ r[a]? = some c ∧ c.1 < rs.length ∧ c.2 < 8 := by
  have h1 := h.ok _ (List.getElem_mem hs)
  have ha' : a < rs[s].length := by rw [h1.1]; exact ha
  exact ⟨rs[s], rs[s][a], List.getElem?_eq_getElem hs, List.getElem?_eq_getElem ha', (h1.2 _ (List.getElem_mem ha')).1, (h1.2 _ (List.getElem_mem ha')).2⟩
theorem run_lt {A : Nat} {rs : List Rm} (h : OkS A rs) : ∀ (q : Rw), (∀ a ∈ q, a < A) → ∀ s, s < rs.length → q.foldl (stp rs) s < rs.length
  | [], _, s, hs => hs
  | a :: q, hq, s, hs => by
    rw [List.foldl_cons]
    refine run_lt h q (fun b hb => hq b (List.mem_cons_of_mem _ hb)) _ ?_
    obtain ⟨r, c, h1, h2, h3, _⟩ := h.cell hs (hq a List.mem_cons_self)
    unfold stp
    simp only [List.getD_eq_getElem?_getD, h1, h2, Option.getD_some]
    exact h3
theorem Fn.len {A B : Sto} (h : Fn A B) (hA : 2 ≤ B.length) : A.length ≤ B.length := by
  rcases Nat.lt_or_ge B.length A.length with z | z
  · have := h B.length _ (by omega) (List.getElem?_eq_getElem z)
    rw [List.getElem?_eq_none (Nat.le_refl _)] at this; cases this
  · exact z
theorem told_row_ok {ns : List Int} {c A : Nat} {S : Sto} {rs : List Rm} {row : Rw} {share : Nat} (h : PQ ns c S) (hc : c < 90000000) (ok : OkS A rs) (hr : ∀ a ∈ row, a < A) (hA : A ≤ 4) (hl : row.length ≤ 12) (hs : share ≤ 9) :
    Wo (m_law_told_row [.ref 1, rsD rs, rowD row, .int share] S) fun v S' => (∃ an, v = enD (row, an) ∧ OkE (row, an) ∧ Cs (tel rs) (row, an)) ∧ PQ ns (c + 12) S' ∧ Fn S S' := by
  have sz := sizeBig
  have l2 := h.lt
  unfold m_law_told_row b_law_told_row
  simp only [wo_run, List.map_cons, List.map_nil, List.length_cons, List.length_nil, Nat.reduceAdd, Nat.reduceSub, List.replicate, List.cons_append, List.nil_append]
  refine ws_cut (fun l S' => l = [some (.ref 1), some (rsD rs), some (rowD row), some (.int share), some (.int 0), none, none, none] ∧ S' = S) (by simp only [wo_run, ws_seq, ws_if, wt_e, we_op, we_un, we_var, we_c, ws_asg, ws_ret, ws_drop, ws_next, ws_break, ws_cont, wg_name, wg_sub, wg_tup, wg_nil, wg_cons, wg_dput, we_call, we_methL, we_methS, wa_cons, wa_nil, wt_and, wt_or, wt_not, we_and, we_or, we_not, we_if, wo_I0, wo_I, wo_plusAI, wo_plusAT, we_slA, wp_none, wp_some, ex_int1, wo_slT, wo_intAB, wo_times, wo_ixT, wo_ixL, wo_ixAT, wo_ixAL, wo_ixAS, wo_lenT, wo_lenL, wo_lenAT, wo_lenAL, wo_lenAS, wo_abs, wo_intB, wo_tup, wo_lst, wo_tupleL, wo_eqI, wo_eqB, wo_eqSt, wo_neS, wo_neB, wo_neI, wo_is, wo_isnot, wo_str, wo_isI_bl, wo_isI_int, wo_isI_str, wo_isI_tup, wo_isI_non, isI_same, List.map_cons, List.map_nil, List.length_cons, List.length_nil, Nat.reduceAdd, Nat.reduceSub, List.replicate, List.cons_append, List.nil_append, List.getElem?_cons_zero, List.getElem?_cons_succ, List.set_cons_zero, List.set_cons_succ, ex_some, ex_some1, ex_bl, ex_int, at3_0, at3_1, at3_2, at2_0, at2_1, lstOf_last, decide_eq_true_eq, we_get1, we_get2, we_callV, we_fnc, we_dictT, wg_putX, and_self]) ?_
  rintro l S1 ⟨rfl, rfl⟩
  refine ws_cut (fun l S' => l = [some (.ref 1), some (rsD rs), some (rowD row), some (.int share), some (.int 0), some (.ref S1.length), none, none] ∧ S' = S1 ++ [.lst []]) (by simp only [wo_run, ws_seq, ws_if, wt_e, we_op, we_un, we_var, we_c, ws_asg, ws_ret, ws_drop, ws_next, ws_break, ws_cont, wg_name, wg_sub, wg_tup, wg_nil, wg_cons, wg_dput, we_call, we_methL, we_methS, wa_cons, wa_nil, wt_and, wt_or, wt_not, we_and, we_or, we_not, we_if, wo_I0, wo_I, wo_plusAI, wo_plusAT, we_slA, wp_none, wp_some, ex_int1, wo_slT, wo_intAB, wo_times, wo_ixT, wo_ixL, wo_ixAT, wo_ixAL, wo_ixAS, wo_lenT, wo_lenL, wo_lenAT, wo_lenAL, wo_lenAS, wo_abs, wo_intB, wo_tup, wo_lst, wo_tupleL, wo_eqI, wo_eqB, wo_eqSt, wo_neS, wo_neB, wo_neI, wo_is, wo_isnot, wo_str, wo_isI_bl, wo_isI_int, wo_isI_str, wo_isI_tup, wo_isI_non, isI_same, List.map_cons, List.map_nil, List.length_cons, List.length_nil, Nat.reduceAdd, Nat.reduceSub, List.replicate, List.cons_append, List.nil_append, List.getElem?_cons_zero, List.getElem?_cons_succ, List.set_cons_zero, List.set_cons_succ, ex_some, ex_some1, ex_bl, ex_int, at3_0, at3_1, at3_2, at2_0, at2_1, lstOf_last, decide_eq_true_eq, we_get1, we_get2, we_callV, we_fnc, we_dictT, wg_putX]; exact ⟨by omega, (by first | rfl | trivial), (by first | rfl | trivial)⟩) ?_
  rintro l S2 ⟨rfl, rfl⟩
  refine ws_cut (fun l S' => ∃ an x4 x6 x7, l = [some (.ref 1), some (rsD rs), some (rowD row), some (.int share), x4, some (.ref S1.length), x6, x7] ∧ S'[S1.length]? = some (.lst (an.map oD)) ∧ an.length = row.length ∧ (∀ k, some k ∈ an → k < 8) ∧ Cs (tel rs) (row, an) ∧ PQ ns (c + row.length) S' ∧ Fn S1 S') ?_ ?_
  · refine ws_forT' (row.map nD) (fun i l S' => ∃ an x6 x7, l = [some (.ref 1), some (rsD rs), some (rowD row), some (.int share), some (.int (run rs (row.take i) : Nat)), some (.ref S1.length), x6, x7] ∧ S'[S1.length]? = some (.lst (an.map oD)) ∧ an.length = i ∧ (∀ k, some k ∈ an → k < 8) ∧ Cs (tel rs) (row, an) ∧ PQ ns (c + i) S' ∧ Fn S1 S') (fun _ _ => False) rfl
      ⟨[], none, none, rfl, get_new, rfl, (fun k hk => by cases hk), (fun i k hk => by simp at hk), h.gr ⟨_, rfl⟩, Fn.gr ⟨_, rfl⟩⟩ ?_ ?_ (fun d l' S' z => z.elim)
    · rintro i x l S3 hx ⟨an, x6, x7, rfl, hg, hn, h8, cs, p3, f3⟩
      rw [List.getElem?_map] at hx
      obtain ⟨a, ha, rfl⟩ := Option.map_eq_some_iff.mp hx
      have haA := hr a (List.mem_of_getElem? ha)
      have hi : i < row.length := (List.getElem?_eq_some_iff.mp ha).1
      have hrun := run_lt ok (row.take i) (fun b hb => hr b (List.mem_of_mem_take hb)) 0 ok.n1
      obtain ⟨r, cc, h1, h2, h3, h4⟩ := ok.cell (s := run rs (row.take i)) hrun haA
      have e1 : L2.atI (rs.map rmD) ((run rs (row.take i) : Nat) : Int) = some (rmD r) := atI_get (by rw [List.getElem?_map, h1]; rfl)
      have e2 : L2.atI (r.map cD) ((a : Nat) : Int) = some (cD cc) := atI_get (by rw [List.getElem?_map, h2]; rfl)
      have es : run rs (row.take (i + 1)) = cc.1 := by
        unfold run; rw [foldl_take _ _ ha]
        show stp rs (run rs (row.take i)) a = _
        unfold stp
        simp only [List.getD_eq_getElem?_getD, h1, h2, Option.getD_some]
      have et : tel rs (row.take (i + 1)) = cc.2 := by
        unfold tel
        have q1 : (row.take (i + 1)).dropLast = row.take i := by rw [List.take_add_one, ha]; simp
        have q2 : (row.take (i + 1)).getLastD 0 = a := by rw [List.take_add_one, ha]; simp
        rw [q1, q2]
        simp only [List.getD_eq_getElem?_getD, h1, h2, Option.getD_some]
      simp only [wg_name, List.set_cons_zero, List.set_cons_succ]
      refine ws_cut (fun l S' => l = [some (.ref 1), some (rsD rs), some (rowD row), some (.int share), some (.int (cc.1 : Nat)), some (.ref S1.length), some (nD a), some (.int (cc.2 : Nat))] ∧ S' = S3) ?_ ?_
      · unfold rsD nD
        simp only [wo_run, ws_seq, ws_if, wt_e, we_op, we_un, we_var, we_c, ws_asg, ws_ret, ws_drop, ws_next, ws_break, ws_cont, wg_name, wg_sub, wg_tup, wg_nil, wg_cons, wg_dput, we_call, we_methL, we_methS, wa_cons, wa_nil, wt_and, wt_or, wt_not, we_and, we_or, we_not, we_if, wo_I0, wo_I, wo_plusAI, wo_plusAT, we_slA, wp_none, wp_some, ex_int1, wo_slT, wo_intAB, wo_times, wo_ixT, wo_ixL, wo_ixAT, wo_ixAL, wo_ixAS, wo_lenT, wo_lenL, wo_lenAT, wo_lenAL, wo_lenAS, wo_abs, wo_intB, wo_tup, wo_lst, wo_tupleL, wo_eqI, wo_eqB, wo_eqSt, wo_neS, wo_neB, wo_neI, wo_is, wo_isnot, wo_str, wo_isI_bl, wo_isI_int, wo_isI_str, wo_isI_tup, wo_isI_non, isI_same, List.map_cons, List.map_nil, List.length_cons, List.length_nil, Nat.reduceAdd, Nat.reduceSub, List.replicate, List.cons_append, List.nil_append, List.getElem?_cons_zero, List.getElem?_cons_succ, List.set_cons_zero, List.set_cons_succ, ex_some, ex_some1, ex_bl, ex_int, at3_0, at3_1, at3_2, at2_0, at2_1, lstOf_last, decide_eq_true_eq, we_get1, we_get2, we_callV, we_fnc, we_dictT, wg_putX, e1]
        unfold rmD
        simp only [wo_run, ws_seq, ws_if, wt_e, we_op, we_un, we_var, we_c, ws_asg, ws_ret, ws_drop, ws_next, ws_break, ws_cont, wg_name, wg_sub, wg_tup, wg_nil, wg_cons, wg_dput, we_call, we_methL, we_methS, wa_cons, wa_nil, wt_and, wt_or, wt_not, we_and, we_or, we_not, we_if, wo_I0, wo_I, wo_plusAI, wo_plusAT, we_slA, wp_none, wp_some, ex_int1, wo_slT, wo_intAB, wo_times, wo_ixT, wo_ixL, wo_ixAT, wo_ixAL, wo_ixAS, wo_lenT, wo_lenL, wo_lenAT, wo_lenAL, wo_lenAS, wo_abs, wo_intB, wo_tup, wo_lst, wo_tupleL, wo_eqI, wo_eqB, wo_eqSt, wo_neS, wo_neB, wo_neI, wo_is, wo_isnot, wo_str, wo_isI_bl, wo_isI_int, wo_isI_str, wo_isI_tup, wo_isI_non, isI_same, List.map_cons, List.map_nil, List.length_cons, List.length_nil, Nat.reduceAdd, Nat.reduceSub, List.replicate, List.cons_append, List.nil_append, List.getElem?_cons_zero, List.getElem?_cons_succ, List.set_cons_zero, List.set_cons_succ, ex_some, ex_some1, ex_bl, ex_int, at3_0, at3_1, at3_2, at2_0, at2_1, lstOf_last, decide_eq_true_eq, we_get1, we_get2, we_callV, we_fnc, we_dictT, wg_putX, e2]
        unfold cD
        simp only [wo_run, ws_seq, ws_if, wt_e, we_op, we_un, we_var, we_c, ws_asg, ws_ret, ws_drop, ws_next, ws_break, ws_cont, wg_name, wg_sub, wg_tup, wg_nil, wg_cons, wg_dput, we_call, we_methL, we_methS, wa_cons, wa_nil, wt_and, wt_or, wt_not, we_and, we_or, we_not, we_if, wo_I0, wo_I, wo_plusAI, wo_plusAT, we_slA, wp_none, wp_some, ex_int1, wo_slT, wo_intAB, wo_times, wo_ixT, wo_ixL, wo_ixAT, wo_ixAL, wo_ixAS, wo_lenT, wo_lenL, wo_lenAT, wo_lenAL, wo_lenAS, wo_abs, wo_intB, wo_tup, wo_lst, wo_tupleL, wo_eqI, wo_eqB, wo_eqSt, wo_neS, wo_neB, wo_neI, wo_is, wo_isnot, wo_str, wo_isI_bl, wo_isI_int, wo_isI_str, wo_isI_tup, wo_isI_non, isI_same, List.map_cons, List.map_nil, List.length_cons, List.length_nil, Nat.reduceAdd, Nat.reduceSub, List.replicate, List.cons_append, List.nil_append, List.getElem?_cons_zero, List.getElem?_cons_succ, List.set_cons_zero, List.set_cons_succ, ex_some, ex_some1, ex_bl, ex_int, at3_0, at3_1, at3_2, at2_0, at2_1, lstOf_last, decide_eq_true_eq, we_get1, we_get2, we_callV, we_fnc, we_dictT, wg_putX, and_self]
      rintro l S4 ⟨rfl, rfl⟩
      simp only [ws_drop, we_methL, we_var, List.getElem?_cons_zero, List.getElem?_cons_succ, ex_some, recvL_of hg, ex_ok, true_and, wa_cons, wa_nil, we_if, wt_e, we_op, we_call, we_c, wo_plusAI]
      refine (draw_ok p3 (by omega) (by omega) (by omega)).mono ?_
      rintro u S5 ⟨⟨d, rfl, hd⟩, p5, f5⟩
      have hg5 := f5 _ _ (by omega) hg
      simp only [wo_I0, ex_bl]
      have fin : ∀ o : Option Nat, (o = none ∨ o = some cc.2) → Wo (mAppend (.ref S1.length) [oD o] S5) fun v S' => ((Fl.nx = .nx ∨ Fl.nx = .ct) ∧ ∃ an x6 x7, [some (.ref 1), some (rsD rs), some (rowD row), some (.int share), some (.int (cc.1 : Nat)), some (.ref S1.length), some (nD a), some (.int (cc.2 : Nat))] = [some (.ref 1), some (rsD rs), some (rowD row), some (.int share), some (.int (run rs (row.take (i + 1)) : Nat)), some (.ref S1.length), x6, x7] ∧ S'[S1.length]? = some (.lst (an.map oD)) ∧ an.length = i + 1 ∧ (∀ k, some k ∈ an → k < 8) ∧ Cs (tel rs) (row, an) ∧ PQ ns (c + (i + 1)) S' ∧ Fn S1 S') ∨ ∃ d, Fl.nx = .rt d ∧ False := fun o ho => by
        rw [wo_app hg5 (by rw [List.length_map]; omega)]
        refine .inl ⟨.inl rfl, an ++ [o], _, _, by rw [es], by rw [get_setL hg5]; simp, by simp [hn], fun k hk => ?_, fun j k hk => ?_, p5.setN (by omega), (f3.trans f5).setN (by omega)⟩
        · rcases List.mem_append.mp hk with z | z
          · exact h8 k z
          · have : some k = o := by simpa using z
            rcases ho with rfl | rfl
            · cases this
            · cases this; exact h4
        · by_cases hj : j < an.length
          · exact cs j k (by rw [← List.getElem?_append_left hj (l₂ := [o])]; exact hk)
          · have hj2 : j = i := by
              have := (List.getElem?_eq_some_iff.mp hk).1
              simp at this; omega
            subst hj2
            have hk2 : (an ++ [o])[j]? = some (some k) := hk
            rw [List.getElem?_append_right (by omega), hn] at hk2
            have : o = some k := by simpa using hk2
            rcases ho with rfl | rfl
            · cases this
            · cases this; exact et.symm
      by_cases hd0 : (d : Int) > 0
      · simp only [hd0, decide_true, if_true]
        exact Wo.mono (fin (some cc.2) (.inr rfl)) fun v S' q => q.imp (fun z => ⟨(by first | exact .inl rfl | exact .inl trivial | trivial), z.2⟩) id
      · simp only [hd0, decide_false, Bool.false_eq_true, if_false]
        exact Wo.mono (fin none (.inl rfl)) fun v S' q => q.imp (fun z => ⟨(by first | exact .inl rfl | exact .inl trivial | trivial), z.2⟩) id
    · rintro l' S' ⟨an, x6, x7, rfl, hg, hn, h8, cs, p, f⟩
      rw [List.length_map] at hn p
      exact ⟨rfl, an, _, _, _, rfl, hg, hn, h8, cs, p, f⟩
  rintro l S3 ⟨an, x4, x6, x7, rfl, hg, hn, h8, cs, p3, f3⟩
  simp only [wo_run, ws_seq, ws_if, wt_e, we_op, we_un, we_var, we_c, ws_asg, ws_ret, ws_drop, ws_next, ws_break, ws_cont, wg_name, wg_sub, wg_tup, wg_nil, wg_cons, wg_dput, we_call, we_methL, we_methS, wa_cons, wa_nil, wt_and, wt_or, wt_not, we_and, we_or, we_not, we_if, wo_I0, wo_I, wo_plusAI, wo_plusAT, we_slA, wp_none, wp_some, ex_int1, wo_slT, wo_intAB, wo_times, wo_ixT, wo_ixL, wo_ixAT, wo_ixAL, wo_ixAS, wo_lenT, wo_lenL, wo_lenAT, wo_lenAL, wo_lenAS, wo_abs, wo_intB, wo_tup, wo_lst, wo_tupleL, wo_eqI, wo_eqB, wo_eqSt, wo_neS, wo_neB, wo_neI, wo_is, wo_isnot, wo_str, wo_isI_bl, wo_isI_int, wo_isI_str, wo_isI_tup, wo_isI_non, isI_same, List.map_cons, List.map_nil, List.length_cons, List.length_nil, Nat.reduceAdd, Nat.reduceSub, List.replicate, List.cons_append, List.nil_append, List.getElem?_cons_zero, List.getElem?_cons_succ, List.set_cons_zero, List.set_cons_succ, ex_some, ex_some1, ex_bl, ex_int, at3_0, at3_1, at3_2, at2_0, at2_1, lstOf_last, decide_eq_true_eq, we_get1, we_get2, we_callV, we_fnc, we_dictT, wg_putX, lst_of hg]
  refine ⟨by omega, ⟨an, rfl, ⟨hn, hl, fun a ha => ?_, h8⟩, cs⟩, p3.mono (by omega), f3⟩
  have := hr a ha
  omega
end M
namespace M
open PySem L3 G
structure OkH (f : Rw → Nat) (sh : List En) : Prop where
  ok : ∀ e ∈ sh, OkE e
  cs : ∀ e ∈ sh, Cs f e
  b24 : (bg sh).length ≤ 24
  l24 : sh.length ≤ 24
def LtA (A : Nat) (sh : List En) : Prop := ∀ e ∈ sh, ∀ a ∈ e.1, a < A
theorem pick4 {a b c d : Int} (i : Nat) (h1 : (i : Int) < 4) : ∃ x, L2.atI [D.int a, D.int b, D.int c, D.int d] (i : Int) = some (.int x) ∧ (x = a ∨ x = b ∨ x = c ∨ x = d) := by
  have : i = 0 ∨ i = 1 ∨ i = 2 ∨ i = 3 := by omega
  rcases this with rfl | rfl | rfl | rfl
  · exact ⟨a, rfl, by simp⟩
  · exact ⟨b, rfl, by simp⟩
  · exact ⟨c, rfl, by simp⟩
  · exact ⟨d, rfl, by simp⟩
theorem lift_ns {A : Nat} : ∀ {vs : List D}, (∀ v ∈ vs, ∃ a : Nat, v = nD a ∧ a < A) → ∃ r : Rw, vs = r.map nD ∧ ∀ a ∈ r, a < A
  | [], _ => ⟨[], rfl, fun c hc => by cases hc⟩
  | v :: vs, h => by
    obtain ⟨c, e, hc⟩ := h v List.mem_cons_self
    obtain ⟨r, e2, hr⟩ := lift_ns (vs := vs) fun w hw => h w (List.mem_cons_of_mem _ hw)
    refine ⟨c :: r, by rw [e, e2]; rfl, fun d hd => ?_⟩
    rcases List.mem_cons.mp hd with rfl | hd
    · exact hc
    · exact hr d hd
theorem wo_catR {S : Sto} {r q : Rw} {Q : D → Sto → Prop} (h : r.length + q.length ≤ 1000) : Wo (dPlusA (rowD r) (rowD q) S) Q = Q (rowD (r ++ q)) S := by
  have sz := sizeBig
  unfold rowD
  rw [wo_plusAT, List.length_map, List.length_map, List.map_append]
  apply propext
  exact ⟨fun z => z.2, fun z => ⟨by omega, z⟩⟩
theorem sheet_ok {ns : List Int} {c A many : Nat} {S : Sto} {rs : List Rm} (h : PQ ns c S) (hc : c < 80000000) (ok : OkS A rs) (hA : A ≤ 4) (hA1 : 1 ≤ A) (hm : many ≤ 24) :
    Wo (m_law_sheet [.ref 1, rsD rs, .int many, .int 24] S) fun v S' => (∃ n sh, v = .ref n ∧ 2 ≤ n ∧ S.length ≤ n ∧ S'[n]? = some (.lst (sh.map enD)) ∧ OkH (tel rs) sh ∧ LtA A sh) ∧ PQ ns (c + 2000) S' ∧ Fn S S' := by
  have sz := sizeBig
  have l2 := h.lt
  unfold m_law_sheet b_law_sheet
  simp only [wo_run, List.map_cons, List.map_nil, List.length_cons, List.length_nil, Nat.reduceAdd, Nat.reduceSub, List.replicate, List.cons_append, List.nil_append]
  refine ws_cut (fun l S' => PQ ns (c + 1) S' ∧ Fn S S' ∧ ∃ sh : Nat, sh ≤ 9 ∧ l = [some (.ref 1), some (rsD rs), some (.int many), some (.int 24), some (.int sh), none, none, none, none, none, none, none]) ?_ ?_
  · simp only [ws_asg, we_op, we_c, we_call, wa_cons, wa_nil, we_var, List.getElem?_cons_zero, List.getElem?_cons_succ, ex_some, wo_lst, List.length_cons, List.length_nil]
    refine ⟨by omega, ?_⟩
    refine (draw_ok (h.gr ⟨_, rfl⟩) (by omega) (by decide) (by decide)).mono ?_
    rintro x S2 ⟨⟨d, rfl, hd⟩, p, f⟩
    obtain ⟨x, hx, hx2⟩ := pick4 (a := 1) (b := 2) (c := 4) (d := 9) d hd
    have e : lstOf S2 S.length = some [.int 1, .int 2, .int 4, .int 9] := f.lst (by omega) lstOf_last
    simp only [wo_ixAL, e, ex_some1, hx, wg_name, List.set_cons_zero, List.set_cons_succ]
    first | exact ⟨(by first | rfl | trivial), p, (Fn.gr ⟨_, rfl⟩).trans f, x.toNat, by omega, by rw [Int.toNat_of_nonneg (by omega)]⟩ | exact ⟨p, (Fn.gr ⟨_, rfl⟩).trans f, x.toNat, by omega, by rw [Int.toNat_of_nonneg (by omega)]⟩
  rintro l S1 ⟨p1, f1, share, hsh, rfl⟩
  have l1 := p1.lt
  refine ws_cut (fun l S' => PQ ns (c + 2) S' ∧ Fn S S' ∧ ∃ wd : Nat, 1 ≤ wd ∧ wd ≤ 12 ∧ l = [some (.ref 1), some (rsD rs), some (.int many), some (.int 24), some (.int share), some (.int wd), none, none, none, none, none, none]) ?_ ?_
  · simp only [ws_asg, we_op, we_c, we_call, wa_cons, wa_nil, we_var, List.getElem?_cons_zero, List.getElem?_cons_succ, ex_some, wo_lst, List.length_cons, List.length_nil]
    refine ⟨by omega, ?_⟩
    refine (draw_ok (p1.gr ⟨_, rfl⟩) (by omega) (by decide) (by decide)).mono ?_
    rintro x S2 ⟨⟨d, rfl, hd⟩, p, f⟩
    obtain ⟨x, hx, hx2⟩ := pick3 (a := 3) (b := 5) (c := 12) d hd
    have e : lstOf S2 S1.length = some [.int 3, .int 5, .int 12] := f.lst (by omega) lstOf_last
    simp only [wo_ixAL, e, ex_some1, hx, wg_name, List.set_cons_zero, List.set_cons_succ]
    first | exact ⟨(by first | rfl | trivial), p.mono (by omega), f1.trans ((Fn.gr ⟨_, rfl⟩).trans f), x.toNat, by omega, by omega, by rw [Int.toNat_of_nonneg (by omega)]⟩ | exact ⟨p.mono (by omega), f1.trans ((Fn.gr ⟨_, rfl⟩).trans f), x.toNat, by omega, by omega, by rw [Int.toNat_of_nonneg (by omega)]⟩
  rintro l S2 ⟨p2, f2, wd, wd1, wd2, rfl⟩
  refine ws_cut (fun l S' => S' = S2 ∧ l = [some (.ref 1), some (rsD rs), some (.int many), some (.int 24), some (.int share), some (.int wd), some (.int A), none, none, none, none, none]) ?_ ?_
  · obtain ⟨r, hr⟩ : ∃ r, rs[0]? = some r := ⟨_, List.getElem?_eq_getElem ok.n1⟩
    have e1 : L2.atI (rs.map rmD) 0 = some (rmD r) := atI_get (i := 0) (by rw [List.getElem?_map, hr]; rfl)
    have e2 := (ok.ok r (List.mem_of_getElem? hr)).1
    unfold rsD
    simp only [wo_run, ws_seq, ws_if, wt_e, we_op, we_un, we_var, we_c, ws_asg, ws_ret, ws_drop, ws_next, ws_break, ws_cont, wg_name, wg_sub, wg_tup, wg_nil, wg_cons, wg_dput, we_call, we_methL, we_methS, wa_cons, wa_nil, wt_and, wt_or, wt_not, we_and, we_or, we_not, we_if, wo_I0, wo_I, wo_plusAI, wo_plusAT, we_slA, wp_none, wp_some, ex_int1, wo_slT, wo_intAB, wo_times, wo_ixT, wo_ixL, wo_ixAT, wo_ixAL, wo_ixAS, wo_lenT, wo_lenL, wo_lenAT, wo_lenAL, wo_lenAS, wo_abs, wo_intB, wo_tup, wo_lst, wo_tupleL, wo_eqI, wo_eqB, wo_eqSt, wo_neS, wo_neB, wo_neI, wo_is, wo_isnot, wo_str, wo_isI_bl, wo_isI_int, wo_isI_str, wo_isI_tup, wo_isI_non, isI_same, List.map_cons, List.map_nil, List.length_cons, List.length_nil, Nat.reduceAdd, Nat.reduceSub, List.replicate, List.cons_append, List.nil_append, List.getElem?_cons_zero, List.getElem?_cons_succ, List.set_cons_zero, List.set_cons_succ, ex_some, ex_some1, ex_bl, ex_int, at3_0, at3_1, at3_2, at2_0, at2_1, lstOf_last, decide_eq_true_eq, we_get1, we_get2, we_callV, we_fnc, we_dictT, wg_putX, e1]
    unfold rmD
    simp only [wo_run, ws_seq, ws_if, wt_e, we_op, we_un, we_var, we_c, ws_asg, ws_ret, ws_drop, ws_next, ws_break, ws_cont, wg_name, wg_sub, wg_tup, wg_nil, wg_cons, wg_dput, we_call, we_methL, we_methS, wa_cons, wa_nil, wt_and, wt_or, wt_not, we_and, we_or, we_not, we_if, wo_I0, wo_I, wo_plusAI, wo_plusAT, we_slA, wp_none, wp_some, ex_int1, wo_slT, wo_intAB, wo_times, wo_ixT, wo_ixL, wo_ixAT, wo_ixAL, wo_ixAS, wo_lenT, wo_lenL, wo_lenAT, wo_lenAL, wo_lenAS, wo_abs, wo_intB, wo_tup, wo_lst, wo_tupleL, wo_eqI, wo_eqB, wo_eqSt, wo_neS, wo_neB, wo_neI, wo_is, wo_isnot, wo_str, wo_isI_bl, wo_isI_int, wo_isI_str, wo_isI_tup, wo_isI_non, isI_same, List.map_cons, List.map_nil, List.length_cons, List.length_nil, Nat.reduceAdd, Nat.reduceSub, List.replicate, List.cons_append, List.nil_append, List.getElem?_cons_zero, List.getElem?_cons_succ, List.set_cons_zero, List.set_cons_succ, ex_some, ex_some1, ex_bl, ex_int, at3_0, at3_1, at3_2, at2_0, at2_1, lstOf_last, decide_eq_true_eq, we_get1, we_get2, we_callV, we_fnc, we_dictT, wg_putX, List.length_map, e2, and_self]
  rintro l S3 ⟨rfl, rfl⟩
  have l3 := p2.lt
  have hS3 := f2.len l3
  refine ws_cut (fun l S' => S' = S3 ++ [.lst []] ∧ l = [some (.ref 1), some (rsD rs), some (.int many), some (.int 24), some (.int share), some (.int wd), some (.int A), some (.ref S3.length), none, none, none, none]) (by simp only [wo_run, ws_seq, ws_if, wt_e, we_op, we_un, we_var, we_c, ws_asg, ws_ret, ws_drop, ws_next, ws_break, ws_cont, wg_name, wg_sub, wg_tup, wg_nil, wg_cons, wg_dput, we_call, we_methL, we_methS, wa_cons, wa_nil, wt_and, wt_or, wt_not, we_and, we_or, we_not, we_if, wo_I0, wo_I, wo_plusAI, wo_plusAT, we_slA, wp_none, wp_some, ex_int1, wo_slT, wo_intAB, wo_times, wo_ixT, wo_ixL, wo_ixAT, wo_ixAL, wo_ixAS, wo_lenT, wo_lenL, wo_lenAT, wo_lenAL, wo_lenAS, wo_abs, wo_intB, wo_tup, wo_lst, wo_tupleL, wo_eqI, wo_eqB, wo_eqSt, wo_neS, wo_neB, wo_neI, wo_is, wo_isnot, wo_str, wo_isI_bl, wo_isI_int, wo_isI_str, wo_isI_tup, wo_isI_non, isI_same, List.map_cons, List.map_nil, List.length_cons, List.length_nil, Nat.reduceAdd, Nat.reduceSub, List.replicate, List.cons_append, List.nil_append, List.getElem?_cons_zero, List.getElem?_cons_succ, List.set_cons_zero, List.set_cons_succ, ex_some, ex_some1, ex_bl, ex_int, at3_0, at3_1, at3_2, at2_0, at2_1, lstOf_last, decide_eq_true_eq, we_get1, we_get2, we_callV, we_fnc, we_dictT, wg_putX]; exact ⟨by omega, (by first | rfl | trivial), (by first | rfl | trivial)⟩) ?_
  rintro l S4 ⟨rfl, rfl⟩
  refine ws_cut (fun l S' => ∃ n sh x8 x9 x10 x11, l = [some (.ref 1), some (rsD rs), some (.int many), some (.int 24), some (.int share), some (.int wd), some (.int A), some (.ref n), x8, x9, x10, x11] ∧ 2 ≤ n ∧ S.length ≤ n ∧ S'[n]? = some (.lst (sh.map enD)) ∧ OkH (tel rs) sh ∧ LtA A sh ∧ PQ ns (c + 2000) S' ∧ Fn S S') ?_ ?_
  · refine ws_rng (fun i l S' => ∃ n sh x8 x9 x10 x11, l = [some (.ref 1), some (rsD rs), some (.int many), some (.int 24), some (.int share), some (.int wd), some (.int A), some (.ref n), x8, x9, x10, x11] ∧ 2 ≤ n ∧ S.length ≤ n ∧ S'[n]? = some (.lst (sh.map enD)) ∧ OkH (tel rs) sh ∧ LtA A sh ∧ sh.length ≤ i ∧ PQ ns (c + 2 + 40 * i) S' ∧ Fn S S') (fun _ _ => False) (n := many) rfl (by omega)
      ⟨S3.length, [], none, none, none, none, rfl, by omega, by omega, get_new, ⟨(fun e he => by cases he), (fun e he => by cases he), by decide, by decide⟩, (fun e he => by cases he), Nat.le_refl _, p2.gr ⟨_, rfl⟩, f2.trans (Fn.gr ⟨_, rfl⟩)⟩ ?_ ?_ (fun d l' S' z => z.elim)
    · rintro i l S5 hi ⟨n, sh, x8, x9, x10, x11, rfl, n2, nS, hg, okh, lt, hl, p5, f5⟩
      simp only [wg_name, List.set_cons_zero, List.set_cons_succ]
      have shl := okh.l24
      refine ws_cut (fun l S' => S' = S5 ∧ l = [some (.ref 1), some (rsD rs), some (.int many), some (.int 24), some (.int share), some (.int wd), some (.int A), some (.ref n), some (.int (i : Int)), some (rowD []), x10, x11]) (by simp only [wo_run, ws_seq, ws_if, wt_e, we_op, we_un, we_var, we_c, ws_asg, ws_ret, ws_drop, ws_next, ws_break, ws_cont, wg_name, wg_sub, wg_tup, wg_nil, wg_cons, wg_dput, we_call, we_methL, we_methS, wa_cons, wa_nil, wt_and, wt_or, wt_not, we_and, we_or, we_not, we_if, wo_I0, wo_I, wo_plusAI, wo_plusAT, we_slA, wp_none, wp_some, ex_int1, wo_slT, wo_intAB, wo_times, wo_ixT, wo_ixL, wo_ixAT, wo_ixAL, wo_ixAS, wo_lenT, wo_lenL, wo_lenAT, wo_lenAL, wo_lenAS, wo_abs, wo_intB, wo_tup, wo_lst, wo_tupleL, wo_eqI, wo_eqB, wo_eqSt, wo_neS, wo_neB, wo_neI, wo_is, wo_isnot, wo_str, wo_isI_bl, wo_isI_int, wo_isI_str, wo_isI_tup, wo_isI_non, isI_same, List.map_cons, List.map_nil, List.length_cons, List.length_nil, Nat.reduceAdd, Nat.reduceSub, List.replicate, List.cons_append, List.nil_append, List.getElem?_cons_zero, List.getElem?_cons_succ, List.set_cons_zero, List.set_cons_succ, ex_some, ex_some1, ex_bl, ex_int, at3_0, at3_1, at3_2, at2_0, at2_1, lstOf_last, decide_eq_true_eq, we_get1, we_get2, we_callV, we_fnc, we_dictT, wg_putX]; exact ⟨by omega, (by first | rfl | trivial), (by first | rfl | trivial)⟩) ?_
      rintro l S6 ⟨rfl, rfl⟩
      refine ws_cut (fun l S' => ∃ r0 y10, r0.length ≤ 12 ∧ (∀ a ∈ r0, a < A) ∧ l = [some (.ref 1), some (rsD rs), some (.int many), some (.int 24), some (.int share), some (.int wd), some (.int A), some (.ref n), some (.int (i : Int)), some (rowD r0), y10, x11] ∧ S'[n]? = some (.lst (sh.map enD)) ∧ PQ ns (c + 2 + 40 * i + 3) S' ∧ Fn S S') ?_ ?_
      · refine ws_if' (fun b S' => (b = true → sh ≠ []) ∧ S'[n]? = some (.lst (sh.map enD)) ∧ PQ ns (c + 2 + 40 * i + 1) S' ∧ Fn S S') ?_ ?_ ?_
        · have hg' : (S6 ++ [.lst []])[n]? = some (.lst (sh.map enD)) := get_old hg
          simp only [wt_and, wt_e, we_op, we_call, we_var, wa_nil, wo_lst, List.getElem?_cons_zero, List.getElem?_cons_succ, ex_some, List.length_nil]
          refine ⟨by omega, ?_⟩
          rw [wo_neNil hg' get_new]
          refine ⟨_, rfl, ?_⟩
          by_cases e : sh = []
          · subst e
            simp only [List.map_nil, List.isEmpty_nil, Bool.not_true, Bool.false_eq_true, if_false]
            exact ⟨fun z => (by cases z), hg', (p5.gr ⟨_, rfl⟩).mono (by omega), f5.trans (Fn.gr ⟨_, rfl⟩)⟩
          · have e' : (!(sh.map enD).isEmpty) = true := by cases sh with
              | nil => exact absurd rfl e
              | cons a b => rfl
            simp only [e', if_true, wa_cons, wa_nil, we_var, we_c, List.getElem?_cons_zero, ex_some]
            refine (draw_ok (p5.gr ⟨_, rfl⟩) (by omega) (by decide) (by decide)).mono ?_
            rintro x S7 ⟨⟨d, rfl, hd⟩, p7, f7⟩
            rw [wo_eqI]
            exact ⟨_, rfl, fun _ => e, f7 _ _ (by omega) hg', p7, f5.trans ((Fn.gr ⟨_, rfl⟩).trans f7)⟩
        · rintro S7 ⟨hne, hg7, p7, f7⟩
          have hne := hne rfl
          have hpos : 0 < sh.length := List.length_pos_iff.mpr hne
          refine ws_cut (fun l S' => ∃ e ∈ sh, l = [some (.ref 1), some (rsD rs), some (.int many), some (.int 24), some (.int share), some (.int wd), some (.int A), some (.ref n), some (.int (i : Int)), some (rowD []), some (rowD e.1), x11] ∧ S'[n]? = some (.lst (sh.map enD)) ∧ PQ ns (c + 2 + 40 * i + 2) S' ∧ Fn S S') ?_ ?_
          · simp only [ws_asg, we_op, we_call, wa_cons, wa_nil, we_var, List.getElem?_cons_zero, List.getElem?_cons_succ, ex_some, wo_lenAL, lst_of hg7, ex_some1, List.length_map]
            refine (draw_ok p7 (by omega) (by omega) (by omega)).mono ?_
            rintro x S8 ⟨⟨d, rfl, hd⟩, p8, f8⟩
            have hg8 := f8 _ _ (by omega) hg7
            obtain ⟨e, he⟩ : ∃ e, sh[d]? = some e := ⟨_, List.getElem?_eq_getElem (by omega)⟩
            have e1 : L2.atI (sh.map enD) ((d : Nat) : Int) = some (enD e) := atI_get (by rw [List.getElem?_map, he]; rfl)
            simp only [wo_ixAL, lst_of hg8, ex_some1, e1, we_c]
            unfold enD
            simp only [wo_ixAT, at2_0, ex_some1, wg_name, List.set_cons_zero, List.set_cons_succ]
            first | exact ⟨(by first | rfl | trivial), e, List.mem_of_getElem? he, rfl, hg8, p8, f7.trans f8⟩ | exact ⟨e, List.mem_of_getElem? he, rfl, hg8, p8, f7.trans f8⟩
          rintro l S8 ⟨e, he, rfl, hg8, p8, f8⟩
          have ke := okh.ok e he
          have l12 := ke.l12
          simp only [ws_asg, we_slA, wp_none, wp_some, we_op, we_call, wa_cons, wa_nil, we_var, we_c, List.getElem?_cons_zero, List.getElem?_cons_succ, ex_some, wo_lenR, wo_plusAI]
          refine (draw_ok p8 (by omega) (by omega) (by omega)).mono ?_
          rintro x S9 ⟨⟨d, rfl, hd⟩, p9, f9⟩
          simp only [ex_int1, wo_slR, wg_name, List.set_cons_zero, List.set_cons_succ]
          first | exact ⟨(by first | rfl | trivial), e.1.take d, _, by rw [List.length_take]; omega, fun a ha => lt e he a (List.mem_of_mem_take ha), rfl, f9 _ _ (by omega) hg8, p9, f8.trans f9⟩ | exact ⟨e.1.take d, _, by rw [List.length_take]; omega, fun a ha => lt e he a (List.mem_of_mem_take ha), rfl, f9 _ _ (by omega) hg8, p9, f8.trans f9⟩
        · rintro S7 ⟨_, hg7, p7, f7⟩
          rw [ws_next]
          first | exact ⟨(by first | rfl | trivial), [], _, by decide, (fun a ha => by cases ha), rfl, hg7, p7.mono (by omega), f7⟩ | exact ⟨[], _, by decide, (fun a ha => by cases ha), rfl, hg7, p7.mono (by omega), f7⟩
      rintro l S7 ⟨r0, y10, hr0, hrA, rfl, hg7, p7, f7⟩
      refine ws_cut (fun l S' => ∃ r1 : Rw, (∀ a ∈ r1, a < A) ∧ l = [some (.ref 1), some (rsD rs), some (.int many), some (.int 24), some (.int share), some (.int wd), some (.int A), some (.ref n), some (.int (i : Int)), some (rowD r1), y10, x11] ∧ S'[n]? = some (.lst (sh.map enD)) ∧ PQ ns (c + 2 + 40 * i + 16) S' ∧ Fn S S') ?_ ?_
      · simp only [ws_asg, we_op, we_call, wa_cons, wa_nil, we_var, List.getElem?_cons_zero, List.getElem?_cons_succ, ex_some]
        have him : ∃ (d : Nat) (S8 : Sto), d < wd ∧ aCons (eOp dPlusA (eC (.int 1)) (eCall m_law_draw (aCons (eVar 0) (aCons (eVar 5) (aNil))))) (aNil) [some (.ref 1), some (rsD rs), some (.int many), some (.int 24), some (.int share), some (.int wd), some (.int A), some (.ref n), some (.int (i : Int)), some (rowD r0), y10, x11] S7 = some ([.int ((1 + d : Nat) : Int)], S8) ∧ PQ ns (c + 2 + 40 * i + 4) S8 ∧ Fn S7 S8 := by
          have : Wa (aCons (eOp dPlusA (eC (.int 1)) (eCall m_law_draw (aCons (eVar 0) (aCons (eVar 5) (aNil))))) (aNil)) [some (.ref 1), some (rsD rs), some (.int many), some (.int 24), some (.int share), some (.int wd), some (.int A), some (.ref n), some (.int (i : Int)), some (rowD r0), y10, x11] S7 fun xs S8 => ∃ d : Nat, d < wd ∧ xs = [.int ((1 + d : Nat) : Int)] ∧ PQ ns (c + 2 + 40 * i + 4) S8 ∧ Fn S7 S8 := by
            simp only [wa_cons, wa_nil, we_op, we_c, we_call, we_var, List.getElem?_cons_zero, List.getElem?_cons_succ, ex_some]
            refine (draw_ok p7 (by omega) (by omega) (by omega)).mono ?_
            rintro x S8 ⟨⟨d, rfl, hd⟩, p8, f8⟩
            simp only [wo_plusAI]
            exact ⟨d, by omega, by simp, p8, f8⟩
          obtain ⟨xs, S8, e, d, hd, rfl, p8, f8⟩ := this
          exact ⟨d, S8, hd, e, p8, f8⟩
        obtain ⟨d, S8, hd, him, p8, f8⟩ := him
        have hg8 := f8 _ _ (by omega) hg7
        refine we_compV (rngD 0 (1 + d)) (fun v => ∃ a : Nat, v = nD a ∧ a < A) (fun j S' => PQ ns (c + 2 + 40 * i + 4 + j) S' ∧ S'[n]? = some (.lst (sh.map enD)) ∧ Fn S S') (fun l => ∃ x0, l = [x0, some (.ref 1), some (.int A)]) (rng_im him (by omega)) ⟨p8, hg8, f7.trans f8⟩ ⟨_, rfl⟩ (fun _ _ _ => rfl) (by rw [rngD_len]; omega) ?_ ?_
        · rintro j x l S9 hx ⟨x0, rfl⟩ ⟨p9, hg9, f9⟩
          have hj := (rngD_get hx).1
          simp only [wg_name, List.set_cons_zero, List.set_cons_succ]
          refine ⟨⟨_, rfl⟩, ?_⟩
          simp only [we_call, wa_cons, wa_nil, we_var, List.getElem?_cons_zero, List.getElem?_cons_succ, ex_some]
          refine (draw_ok p9 (by omega) (by omega) (by omega)).mono ?_
          rintro u S10 ⟨⟨b, rfl, hb⟩, p10, f10⟩
          exact ⟨⟨b, rfl, by omega⟩, p10.mono (by omega), f10 _ _ (by omega) hg9, f9.trans f10⟩
        · rintro vs S9 hl9 hv ⟨p9, hg9, f9⟩
          obtain ⟨r, rfl, hr⟩ := lift_ns hv
          rw [rngD_len, List.length_map] at hl9
          rw [rngD_len] at p9
          simp only [wo_tupleL, lstOf_last, ex_some1]
          rw [show D.tup (r.map nD) = rowD r from rfl, wo_catR (by omega)]
          simp only [wg_name, List.set_cons_zero, List.set_cons_succ]
          refine ⟨(by first | rfl | trivial), r0 ++ r, fun a ha => ?_, rfl, get_old hg9, (p9.gr ⟨_, rfl⟩).mono (by omega), f9.trans (Fn.gr ⟨_, rfl⟩)⟩
          rcases List.mem_append.mp ha with z | z
          · exact hrA a z
          · exact hr a z
      rintro l S8 ⟨r1, hr1, rfl, hg8, p8, f8⟩
      have l8 := p8.lt
      refine ws_cut (fun l S' => ∃ m an, l = [some (.ref 1), some (rsD rs), some (.int many), some (.int 24), some (.int share), some (.int wd), some (.int A), some (.ref n), some (.int (i : Int)), some (rowD r1), y10, some (.ref m)] ∧ 2 ≤ m ∧ S.length ≤ m ∧ OkE (r1.take 12, an) ∧ Cs (tel rs) (r1.take 12, an) ∧ S'[n]? = some (.lst (sh.map enD)) ∧ S'[m]? = some (.lst ((sh ++ [(r1.take 12, an)]).map enD)) ∧ PQ ns (c + 2 + 40 * i + 28) S' ∧ Fn S S') ?_ ?_
      · simp only [ws_asg, we_op, we_call, wa_cons, wa_nil, we_var, we_slA, wp_none, wp_some, we_c, List.getElem?_cons_zero, List.getElem?_cons_succ, ex_some, ex_int1]
        rw [show (12 : Int) = ((12 : Nat) : Int) from rfl, wo_slR]
        refine (told_row_ok p8 (by omega) ok (fun a ha => hr1 a (List.mem_of_mem_take ha)) hA (by rw [List.length_take]; omega) hsh).mono ?_
        rintro v S9 ⟨⟨an, rfl, oke, cse⟩, p9, f9⟩
        have hg9 := f9 _ _ (by omega) hg8
        have l9 := p9.lt
        simp only [wo_lst, List.length_cons, List.length_nil]
        refine ⟨by omega, ?_⟩
        rw [wo_plusAL (get_old hg9) get_new]
        refine ⟨by simp; omega, ?_⟩
        simp only [wg_name, List.set_cons_zero, List.set_cons_succ]
        have ff := (f8.trans f9).trans ((Fn.gr (⟨_, rfl⟩ : Gr S9 (S9 ++ [.lst [enD (r1.take 12, an)]]))).trans (Fn.gr ⟨[.lst (sh.map enD ++ [enD (r1.take 12, an)])], rfl⟩))
        first | exact ⟨(by first | rfl | trivial), _, an, rfl, by simp; omega, by have := (f8.trans f9).len l9; simp; omega, oke, cse, get_old (get_old hg9), by rw [get_new]; simp, ((p9.gr ⟨_, rfl⟩).gr ⟨_, rfl⟩).mono (by omega), ff⟩ | exact ⟨_, an, rfl, by simp; omega, by have := (f8.trans f9).len l9; simp; omega, oke, cse, get_old (get_old hg9), by rw [get_new]; simp, ((p9.gr ⟨_, rfl⟩).gr ⟨_, rfl⟩).mono (by omega), ff⟩
      rintro l S9 ⟨m, an, rfl, m2, mS, oke, cse, hg9, hm9, p9, f9⟩
      have okm : ∀ e ∈ sh ++ [(r1.take 12, an)], OkE e := fun e he => by
        rcases List.mem_append.mp he with z | z
        · exact okh.ok e z
        · have : e = (r1.take 12, an) := by simpa using z
          subst this; exact oke
      refine ws_if' (fun b S' => b = decide (((bg (sh ++ [(r1.take 12, an)])).length : Int) ≤ 24) ∧ S' = S9 ++ [.lst ((bg (sh ++ [(r1.take 12, an)])).map rowD)]) ?_ ?_ ?_
      · simp only [wt_e, we_op, we_call, wa_cons, wa_nil, we_var, List.getElem?_cons_zero, List.getElem?_cons_succ, ex_some]
        refine Wo.mono (begun_ok (lst_of hm9) okm (by simp; omega)) ?_
        rintro v S' ⟨rfl, rfl⟩
        simp only [wo_lenAL, lstOf_last, ex_some1, List.length_map, wo_I0, ex_bl]
        first | exact ⟨(by first | rfl | trivial), (by first | rfl | trivial)⟩ | exact ⟨(by first | rfl | trivial)⟩
      · rintro S' ⟨hb, rfl⟩
        have hb : ((bg (sh ++ [(r1.take 12, an)])).length : Int) ≤ 24 := by simpa using hb.symm
        simp only [ws_asg, we_var, List.getElem?_cons_zero, List.getElem?_cons_succ, ex_some, wg_name, List.set_cons_zero, List.set_cons_succ]
        refine .inl ⟨(by first | exact .inl rfl | exact .inl trivial | trivial), m, sh ++ [(r1.take 12, an)], _, _, _, _, rfl, m2, mS, get_old hm9, ⟨okm, fun e he => ?_, by omega, by simp; omega⟩, fun e he a ha => ?_, by simp; omega, (p9.gr ⟨_, rfl⟩).mono (by omega), f9.trans (Fn.gr ⟨_, rfl⟩)⟩
        · rcases List.mem_append.mp he with z | z
          · exact okh.cs e z
          · have : e = (r1.take 12, an) := by simpa using z
            subst this; exact cse
        · rcases List.mem_append.mp he with z | z
          · exact lt e z a ha
          · have : e = (r1.take 12, an) := by simpa using z
            subst this; exact hr1 a (List.mem_of_mem_take ha)
      · rintro S' ⟨hb, rfl⟩
        rw [ws_next]
        exact .inl ⟨.inl rfl, n, sh, _, _, _, _, rfl, n2, nS, get_old hg9, okh, lt, by omega, (p9.gr ⟨_, rfl⟩).mono (by omega), f9.trans (Fn.gr ⟨_, rfl⟩)⟩
    · rintro l' S' ⟨n, sh, x8, x9, x10, x11, rfl, n2, nS, hg, okh, lt, hl, p, f⟩
      exact ⟨rfl, n, sh, _, _, _, _, rfl, n2, nS, hg, okh, lt, p.mono (by omega), f⟩
  rintro l S5 ⟨n, sh, x8, x9, x10, x11, rfl, n2, nS, hg, okh, lt, p5, f5⟩
  simp only [wo_run, ws_seq, ws_if, wt_e, we_op, we_un, we_var, we_c, ws_asg, ws_ret, ws_drop, ws_next, ws_break, ws_cont, wg_name, wg_sub, wg_tup, wg_nil, wg_cons, wg_dput, we_call, we_methL, we_methS, wa_cons, wa_nil, wt_and, wt_or, wt_not, we_and, we_or, we_not, we_if, wo_I0, wo_I, wo_plusAI, wo_plusAT, we_slA, wp_none, wp_some, ex_int1, wo_slT, wo_intAB, wo_times, wo_ixT, wo_ixL, wo_ixAT, wo_ixAL, wo_ixAS, wo_lenT, wo_lenL, wo_lenAT, wo_lenAL, wo_lenAS, wo_abs, wo_intB, wo_tup, wo_lst, wo_tupleL, wo_eqI, wo_eqB, wo_eqSt, wo_neS, wo_neB, wo_neI, wo_is, wo_isnot, wo_str, wo_isI_bl, wo_isI_int, wo_isI_str, wo_isI_tup, wo_isI_non, isI_same, List.map_cons, List.map_nil, List.length_cons, List.length_nil, Nat.reduceAdd, Nat.reduceSub, List.replicate, List.cons_append, List.nil_append, List.getElem?_cons_zero, List.getElem?_cons_succ, List.set_cons_zero, List.set_cons_succ, ex_some, ex_some1, ex_bl, ex_int, at3_0, at3_1, at3_2, at2_0, at2_1, lstOf_last, decide_eq_true_eq, we_get1, we_get2, we_callV, we_fnc, we_dictT, wg_putX]
  exact ⟨⟨n, sh, rfl, n2, nS, hg, okh, lt⟩, p5, f5⟩
end M
namespace M
open PySem L3 G
def kR (r : Rw) : List L2.Key := r.map fun (a : Nat) => (Sum.inl (a : Int) : L2.Key)
theorem kR_inj : ∀ {p q : Rw}, kR p = kR q → p = q
  | [], [], _ => rfl
  | [], _ :: _, h => by unfold kR at h; cases h
  | _ :: _, [], h => by unfold kR at h; cases h
  | a :: p, b :: q, h => by
    unfold kR at h
    rw [List.map_cons, List.map_cons] at h
    injection h with h1 h2
    have e : (a : Int) = b := by injection h1
    rw [kR_inj (p := p) (q := q) h2, show a = b by omega]
theorem keys_ns : ∀ r : Rw, keysD (r.map nD) = some (kR r)
  | [] => rfl
  | a :: r => by
    show (dKey (nD a)).bind _ = _
    rw [show dKey (nD a) = some (Sum.inl (a : Int)) from rfl]
    show (keysD (r.map nD)).bind _ = _
    rw [keys_ns r]; rfl
theorem tKey_row (r : Rw) : tKey (rowD r) = some (kR r) := keys_ns r
theorem tD_kR (r : Rw) : tD (kR r) = rowD r := by
  unfold tD kR rowD
  rw [List.map_map]; rfl
theorem we_dict1T {a b : EM} {l : Lo} {S : Sto} {Q : D → Sto → Prop} : We (eDict1T a b) l S Q = We a l S fun x S1 => We b l S1 fun y S2 => ∃ k, tKey x = some k ∧ Q (.ref S2.length) (S2 ++ [.tdct [(k, y)]]) := by
  apply propext
  constructor
  · rintro ⟨v, S', h, q⟩
    obtain ⟨⟨x, S1⟩, h1, h⟩ := bnd h
    obtain ⟨⟨y, S2⟩, h2, h⟩ := bnd h
    obtain ⟨k, h3, h⟩ := bnd h
    cases h
    exact ⟨x, S1, h1, y, S2, h2, k, h3, q⟩
  · rintro ⟨x, S1, h1, y, S2, h2, k, h3, q⟩
    refine ⟨_, _, ?_, q⟩
    unfold eDict1T
    rw [h1]; show (b l S1).bind _ = _
    rw [h2]; show (tKey x).bind _ = _
    rw [h3]; rfl
def tru (r : Rw) : List L2.Key × D := (kR r, .bl true)
theorem any_key {α : Type} (f : α → List L2.Key × D) (g : α → Rw) (hf : ∀ x, (f x).1 = kR (g x)) (xs : List α) (p : Rw) : ((xs.map f).any fun kv => decide (kv.1 = kR p)) = xs.any fun x => decide (g x = p) := by
  induction xs with
  | nil => rfl
  | cons x xs ih =>
    rw [List.map_cons, List.any_cons, List.any_cons, ih, hf]
    congr 1
    by_cases e : g x = p
    · rw [e]; simp
    · have : ¬ kR (g x) = kR p := fun z => e (kR_inj z)
      simp [e, this]
theorem put_tru (ks : List Rw) (p : Rw) : tvPut (ks.map tru) (kR p) (.bl true) = (addR ks p).map tru := by
  unfold tvPut addR
  rw [any_key tru (fun r => r) (fun _ => rfl)]
  by_cases e : p ∈ ks
  · have : (ks.any fun x => decide (x = p)) = true := List.any_eq_true.mpr ⟨p, e, by simp⟩
    rw [if_pos this, if_pos e]
    rw [List.map_map]
    refine List.map_congr_left fun x _ => ?_
    show (if kR x = kR p then (kR x, D.bl true) else tru x) = tru x
    split <;> rfl
  · have : ¬ (ks.any fun x => decide (x = p)) = true := fun z => by
      obtain ⟨x, hx, h⟩ := List.any_eq_true.mp z
      exact e (by have := of_decide_eq_true h; subst this; exact hx)
    rw [if_neg this, if_neg e, List.map_append]; rfl
theorem addR_mem {acc : List Rw} {p q : Rw} (h : q ∈ acc) : q ∈ addR acc p := by
  unfold addR; split
  · exact h
  · exact List.mem_append_left _ h
theorem bgN_mem {row q : Rw} {acc : List Rw} (h : q ∈ acc) : ∀ n, q ∈ bgN row acc n
  | 0 => h
  | n + 1 => by rw [bgN_succ]; exact addR_mem (bgN_mem h n)
theorem nil_bg (sh : List En) : [] ∈ bg sh := by
  unfold bg
  have : ∀ (l : List En) (acc : List Rw), [] ∈ acc → [] ∈ l.foldl (fun a e => bgR a e.1) acc := by
    intro l
    induction l with
    | nil => intro acc h; exact h
    | cons e l ih => intro acc h; exact ih _ (bgN_mem h _)
  exact this sh _ (by simp)
theorem beg_ok {S : Sto} {n : Nat} {sh : List En} (h : lstOf S n = some (sh.map enD)) (ok : ∀ e ∈ sh, OkE e) (hl : sh.length ≤ 1000) : Wo (m_beginnings [.ref n] S) fun v S' => ∃ m, v = .ref m ∧ S'[m]? = some (.lst ((bg sh).map rowD)) ∧ Gr S S' := by
  have sz := sizeBig
  unfold m_beginnings b_beginnings
  simp only [wo_run, List.map_cons, List.map_nil, List.length_cons, List.length_nil, Nat.reduceAdd, Nat.reduceSub, List.replicate, List.cons_append, List.nil_append]
  refine ws_cut (fun l S' => l = [some (.ref n), some (.ref S.length), none, none, none] ∧ S' = S ++ [.tdct (([[]] : List Rw).map tru)]) ?_ ?_
  · simp only [ws_asg, we_dict1T, wo_run, ws_seq, ws_if, wt_e, we_op, we_un, we_var, we_c, ws_asg, ws_ret, ws_drop, ws_next, ws_break, ws_cont, wg_name, wg_sub, wg_tup, wg_nil, wg_cons, wg_dput, we_call, we_methL, we_methS, wa_cons, wa_nil, wt_and, wt_or, wt_not, we_and, we_or, we_not, we_if, wo_I0, wo_I, wo_plusAI, wo_plusAT, we_slA, wp_none, wp_some, ex_int1, wo_slT, wo_intAB, wo_times, wo_ixT, wo_ixL, wo_ixAT, wo_ixAL, wo_ixAS, wo_lenT, wo_lenL, wo_lenAT, wo_lenAL, wo_lenAS, wo_abs, wo_intB, wo_tup, wo_lst, wo_tupleL, wo_eqI, wo_eqB, wo_eqSt, wo_neS, wo_neB, wo_neI, wo_is, wo_isnot, wo_str, wo_isI_bl, wo_isI_int, wo_isI_str, wo_isI_tup, wo_isI_non, isI_same, List.map_cons, List.map_nil, List.length_cons, List.length_nil, Nat.reduceAdd, Nat.reduceSub, List.replicate, List.cons_append, List.nil_append, List.getElem?_cons_zero, List.getElem?_cons_succ, List.set_cons_zero, List.set_cons_succ, ex_some, ex_some1, ex_bl, ex_int, at3_0, at3_1, at3_2, at2_0, at2_1, lstOf_last, decide_eq_true_eq, we_get1, we_get2, we_callV, we_fnc, we_dictT, wg_putX]
    exact ⟨by omega, _, tKey_row [], (by first | rfl | trivial), (by first | rfl | trivial)⟩
  rintro l S1 ⟨rfl, rfl⟩
  refine ws_cut (fun l S' => ∃ x2 x3 x4, l = [some (.ref n), some (.ref S.length), x2, x3, x4] ∧ S' = S ++ [.tdct ((bg sh).map tru)]) ?_ ?_
  · refine ws_forLst (n := n) (sh.map enD) (fun i l S' => ∃ x2 x3 x4, l = [some (.ref n), some (.ref S.length), x2, x3, x4] ∧ S' = S ++ [.tdct ((bg (sh.take i)).map tru)]) (fun _ _ => False) rfl ⟨_, _, _, rfl, rfl⟩ ?_ ?_ ?_ (fun d l' S' z => z.elim)
    · rintro i l S' ⟨x2, x3, x4, rfl, rfl⟩
      exact Gr.lst ⟨_, rfl⟩ h
    · rintro i x l S2 hx ⟨x2, x3, x4, rfl, rfl⟩
      rw [List.getElem?_map] at hx
      obtain ⟨e, he, rfl⟩ := Option.map_eq_some_iff.mp hx
      have ke := ok e (List.mem_of_getElem? he)
      have hi : i < sh.length := (List.getElem?_eq_some_iff.mp he).1
      unfold enD
      simp only [wg_tup, wg_cons, wg_nil, wg_name, List.length_cons, List.length_nil, List.set_cons_zero, List.set_cons_succ]
      refine ⟨by first | rfl | trivial, ?_⟩
      have hbl := bg_len ok i
      have l12 := ke.l12
      refine ws_rng (fun j l S' => ∃ x4, l = [some (.ref n), some (.ref S.length), some (rowD e.1), some (.tup (e.2.map oD)), x4] ∧ S' = S ++ [.tdct ((bgN e.1 (bg (sh.take i)) (j - 1)).map tru)]) (fun _ _ => False) (n := e.1.length) (S1 := S ++ [.tdct ((bg (sh.take i)).map tru)]) (by show some ([D.int ((e.1.map nD).length : Int)], _) = _; rw [List.length_map]) (by omega) ⟨_, rfl, rfl⟩ ?_ ?_ (fun d l' S' z => z.elim)
      · rintro j l S3 hj ⟨x4, rfl, rfl⟩
        have hb2 := bgN_len e.1 (bg (sh.take i)) (j - 1)
        simp only [wg_name, List.set_cons_zero, List.set_cons_succ, ws_asg, we_c, wg_putX, we_var, List.getElem?_cons_zero, List.getElem?_cons_succ, ex_some, we_slA, wp_none, wp_some, ex_int1, wo_slR]
        refine ⟨_, putT_ok get_new (tKey_row _) (by rw [List.length_map]; omega), .inl ⟨(by first | exact .inl rfl | exact .inl trivial | trivial), _, rfl, ?_⟩⟩
        rw [set_last, put_tru]
        congr 4
        cases j with
        | zero =>
          show addR (bgN e.1 (bg (sh.take i)) 0) (e.1.take 0) = bgN e.1 (bg (sh.take i)) 0
          unfold addR; rw [List.take_zero, if_pos (bgN_mem (nil_bg _) _)]
        | succ j => rw [show j + 1 + 1 - 1 = (j + 1 - 1) + 1 by omega, bgN_succ]; simp
      · rintro l' S' ⟨x4, rfl, rfl⟩
        refine .inl ⟨.inl rfl, _, _, _, rfl, ?_⟩
        unfold bg
        rw [foldl_take _ _ he]; rfl
    · rintro l' S' ⟨x2, x3, x4, rfl, rfl⟩
      refine ⟨rfl, _, _, _, rfl, ?_⟩
      rw [List.length_map, List.take_length]
  rintro l S1 ⟨x2, x3, x4, rfl, rfl⟩
  simp only [ws_ret, we_call, wa_cons, wa_nil, we_var, List.getElem?_cons_zero, List.getElem?_cons_succ, ex_some]
  have e : fListD [.ref S.length] (S ++ [.tdct ((bg sh).map tru)]) = some (.ref (S ++ [Ob.tdct ((bg sh).map tru)]).length, (S ++ [Ob.tdct ((bg sh).map tru)]) ++ [.lst ((bg sh).map rowD)]) := by
    unfold fListD; dsimp only
    rw [get_new]
    show some (_, _ ++ [Ob.lst (((bg sh).map tru).map fun q => tD q.1)]) = _
    rw [List.map_map]
    have : (bg sh).map ((fun q => tD q.1) ∘ tru) = (bg sh).map rowD := List.map_congr_left fun x _ => tD_kR x
    rw [this]
  refine ⟨_, _, e, ?_⟩
  exact ⟨_, rfl, get_new, ⟨_, (List.append_assoc _ _ _)⟩⟩
end M
namespace M
open PySem L3 G
abbrev Tb := List (List L2.Key × D)
theorem tvGet_put (kvs : Tb) (k j : List L2.Key) (v : D) : tvGet (tvPut kvs k v) j = if j = k then some v else tvGet kvs j := by
  unfold tvPut
  by_cases e : (kvs.any fun kv => decide (kv.1 = k)) = true
  · rw [if_pos e]
    by_cases hj : j = k
    · subst hj
      rw [if_pos rfl]
      obtain ⟨kv, h1, h2⟩ := List.any_eq_true.mp e
      clear e
      induction kvs with
      | nil => cases h1
      | cons x kvs ih =>
        obtain ⟨xk, xv⟩ := x
        by_cases hx : xk = j
        · subst hx; simp [tvGet]
        · rcases List.mem_cons.mp h1 with rfl | h1
          · exact absurd (of_decide_eq_true h2) hx
          · have := ih h1
            simp only [tvGet, List.map_cons, if_neg hx, List.find?_cons, decide_eq_false hx] at this ⊢
            exact this
    · rw [if_neg hj]
      clear e
      induction kvs with
      | nil => rfl
      | cons x kvs ih =>
        obtain ⟨xk, xv⟩ := x
        by_cases hx : xk = k
        · subst hx
          have hx' : ¬ xk = j := fun z => hj z.symm
          simp only [tvGet, List.map_cons, if_true, List.find?_cons, decide_eq_false hx'] at ih ⊢
          exact ih
        · by_cases hxj : xk = j
          · subst hxj
            simp [tvGet, hx]
          · simp only [tvGet, List.map_cons, if_neg hx, List.find?_cons, decide_eq_false hxj] at ih ⊢
            exact ih
  · rw [if_neg e]
    have none : tvGet kvs k = none := by
      unfold tvGet
      rw [Option.map_eq_none_iff, List.find?_eq_none]
      intro x hx hk
      exact e (List.any_eq_true.mpr ⟨x, hx, hk⟩)
    by_cases hj : j = k
    · subst hj
      rw [if_pos rfl]
      unfold tvGet at none ⊢
      rw [List.find?_append, Option.map_eq_none_iff.mp none]
      simp
    · rw [if_neg hj]
      unfold tvGet
      rw [List.find?_append]
      cases kvs.find? (fun kv => decide (kv.1 = j)) with
      | some x => rfl
      | none =>
        have hk : ¬ k = j := fun z => hj z.symm
        simp [hk]
def unl (x y : Option Nat) : Bool := match x, y with
  | some i, some j => decide (i ≠ j)
  | _, _ => false
theorem isNon_oD (o : Option Nat) : isNon (oD o) = o.isNone := by cases o <;> rfl
theorem unlike_ok (x y : Option Nat) (S : Sto) : m_answers_unlike [oD x, oD y] S = some (.bl (unl x y), S) := by
  have : Wo (m_answers_unlike [oD x, oD y] S) fun v S' => v = .bl (unl x y) ∧ S' = S := by
    unfold m_answers_unlike b_answers_unlike
    simp only [wo_run, List.map_cons, List.map_nil, List.length_cons, List.length_nil, Nat.reduceAdd, Nat.reduceSub, List.replicate, List.cons_append, List.nil_append]
    cases x with
    | none =>
      simp only [wo_run, ws_seq, ws_if, wt_e, we_op, we_un, we_var, we_c, ws_asg, ws_ret, ws_drop, ws_next, ws_break, ws_cont, wg_name, wg_sub, wg_tup, wg_nil, wg_cons, wg_dput, we_call, we_methL, we_methS, wa_cons, wa_nil, wt_and, wt_or, wt_not, we_and, we_or, we_not, we_if, wo_I0, wo_I, wo_plusAI, wo_plusAT, we_slA, wp_none, wp_some, ex_int1, wo_slT, wo_intAB, wo_times, wo_ixT, wo_ixL, wo_ixAT, wo_ixAL, wo_ixAS, wo_lenT, wo_lenL, wo_lenAT, wo_lenAL, wo_lenAS, wo_abs, wo_intB, wo_tup, wo_lst, wo_tupleL, wo_eqI, wo_eqB, wo_eqSt, wo_neS, wo_neB, wo_neI, wo_is, wo_isnot, wo_str, wo_isI_bl, wo_isI_int, wo_isI_str, wo_isI_tup, wo_isI_non, isI_same, List.map_cons, List.map_nil, List.length_cons, List.length_nil, Nat.reduceAdd, Nat.reduceSub, List.replicate, List.cons_append, List.nil_append, List.getElem?_cons_zero, List.getElem?_cons_succ, List.set_cons_zero, List.set_cons_succ, ex_some, ex_some1, ex_bl, ex_int, at3_0, at3_1, at3_2, at2_0, at2_1, lstOf_last, decide_eq_true_eq, we_get1, we_get2, we_callV, we_fnc, we_dictT, wg_putX, isNon_oD, Option.isNone_none, Bool.not_true, Bool.false_eq_true, if_false]
      first | exact ⟨(by first | rfl | trivial), (by first | rfl | trivial)⟩ | exact ⟨(by first | rfl | trivial)⟩
    | some i =>
      cases y with
      | none =>
        simp only [wo_run, ws_seq, ws_if, wt_e, we_op, we_un, we_var, we_c, ws_asg, ws_ret, ws_drop, ws_next, ws_break, ws_cont, wg_name, wg_sub, wg_tup, wg_nil, wg_cons, wg_dput, we_call, we_methL, we_methS, wa_cons, wa_nil, wt_and, wt_or, wt_not, we_and, we_or, we_not, we_if, wo_I0, wo_I, wo_plusAI, wo_plusAT, we_slA, wp_none, wp_some, ex_int1, wo_slT, wo_intAB, wo_times, wo_ixT, wo_ixL, wo_ixAT, wo_ixAL, wo_ixAS, wo_lenT, wo_lenL, wo_lenAT, wo_lenAL, wo_lenAS, wo_abs, wo_intB, wo_tup, wo_lst, wo_tupleL, wo_eqI, wo_eqB, wo_eqSt, wo_neS, wo_neB, wo_neI, wo_is, wo_isnot, wo_str, wo_isI_bl, wo_isI_int, wo_isI_str, wo_isI_tup, wo_isI_non, isI_same, List.map_cons, List.map_nil, List.length_cons, List.length_nil, Nat.reduceAdd, Nat.reduceSub, List.replicate, List.cons_append, List.nil_append, List.getElem?_cons_zero, List.getElem?_cons_succ, List.set_cons_zero, List.set_cons_succ, ex_some, ex_some1, ex_bl, ex_int, at3_0, at3_1, at3_2, at2_0, at2_1, lstOf_last, decide_eq_true_eq, we_get1, we_get2, we_callV, we_fnc, we_dictT, wg_putX, isNon_oD, Option.isNone_none, Option.isNone_some, Bool.not_true, Bool.not_false, Bool.false_eq_true, if_false, if_true]
        first | exact ⟨(by first | rfl | trivial), (by first | rfl | trivial)⟩ | exact ⟨(by first | rfl | trivial)⟩
      | some j =>
        simp only [wo_run, ws_seq, ws_if, wt_e, we_op, we_un, we_var, we_c, ws_asg, ws_ret, ws_drop, ws_next, ws_break, ws_cont, wg_name, wg_sub, wg_tup, wg_nil, wg_cons, wg_dput, we_call, we_methL, we_methS, wa_cons, wa_nil, wt_and, wt_or, wt_not, we_and, we_or, we_not, we_if, wo_I0, wo_I, wo_plusAI, wo_plusAT, we_slA, wp_none, wp_some, ex_int1, wo_slT, wo_intAB, wo_times, wo_ixT, wo_ixL, wo_ixAT, wo_ixAL, wo_ixAS, wo_lenT, wo_lenL, wo_lenAT, wo_lenAL, wo_lenAS, wo_abs, wo_intB, wo_tup, wo_lst, wo_tupleL, wo_eqI, wo_eqB, wo_eqSt, wo_neS, wo_neB, wo_neI, wo_is, wo_isnot, wo_str, wo_isI_bl, wo_isI_int, wo_isI_str, wo_isI_tup, wo_isI_non, isI_same, List.map_cons, List.map_nil, List.length_cons, List.length_nil, Nat.reduceAdd, Nat.reduceSub, List.replicate, List.cons_append, List.nil_append, List.getElem?_cons_zero, List.getElem?_cons_succ, List.set_cons_zero, List.set_cons_succ, ex_some, ex_some1, ex_bl, ex_int, at3_0, at3_1, at3_2, at2_0, at2_1, lstOf_last, decide_eq_true_eq, we_get1, we_get2, we_callV, we_fnc, we_dictT, wg_putX, isNon_oD, Option.isNone_some, Bool.not_false, if_true, oD]
        refine ⟨?_, (by first | rfl | trivial)⟩
        unfold unl
        by_cases e : i = j
        · subst e; simp
        · simp [e]; omega
  obtain ⟨v, S', e, rfl, rfl⟩ := this
  exact e
def HasE (e : En) (j : Nat) (p : Rw) : Prop := ∃ i k, i < j ∧ e.1.take (i + 1) = p ∧ e.2[i]? = some (some k)
def Has (sh : List En) (p : Rw) : Prop := ∃ e ∈ sh, HasE e e.1.length p
structure Td (f : Rw → Nat) (H : Rw → Prop) (kvs : Tb) : Prop where
  yes : ∀ p, H p → tvGet kvs (kR p) = some (.int (f p : Nat))
  no : ∀ p, ¬ H p → tvGet kvs (kR p) = none
theorem Td.congr {f : Rw → Nat} {H H' : Rw → Prop} {kvs : Tb} (t : Td f H kvs) (h : ∀ p, H p ↔ H' p) : Td f H' kvs := ⟨fun p q => t.yes p ((h p).mpr q), fun p q => t.no p fun z => q ((h p).mp z)⟩
theorem Td.put {f : Rw → Nat} {H : Rw → Prop} {kvs : Tb} (t : Td f H kvs) (p : Rw) : Td f (fun q => H q ∨ q = p) (tvPut kvs (kR p) (.int (f p : Nat))) := by
  refine ⟨fun q hq => ?_, fun q hq => ?_⟩
  · rw [tvGet_put]
    by_cases e : kR q = kR p
    · rw [if_pos e, kR_inj e]
    · rw [if_neg e]
      rcases hq with hq | hq
      · exact t.yes q hq
      · exact absurd (by rw [hq]) e
  · rw [tvGet_put]
    have e : ¬ kR q = kR p := fun z => hq (.inr (kR_inj z))
    rw [if_neg e]
    exact t.no q fun z => hq (.inl z)
theorem Td.get {f : Rw → Nat} {H : Rw → Prop} {kvs : Tb} (t : Td f H kvs) (p : Rw) : ∃ o : Option Nat, (tvGet kvs (kR p)).getD .non = oD o ∧ (o = none ∨ o = some (f p)) := by
  by_cases h : H p
  · exact ⟨some (f p), by rw [t.yes p h]; rfl, .inr rfl⟩
  · exact ⟨none, by rw [t.no p h]; rfl, .inl rfl⟩
theorem enL_im {as : AM} {l : Lo} {S S1 : Sto} {n : Nat} {xs : List D} (h : as l S = some ([.ref n], S1)) (hn : lstOf S1 n = some xs) : iEnumA as l S = some (itN (itL n), (enl xs).length + 1, S1) := by
  unfold iEnumA; rw [h, enl_len]; show (lstOf S1 n).bind _ = _; rw [hn]; rfl
theorem itNL_at {n i : Nat} {S : Sto} {xs : List D} (hn : lstOf S n = some xs) : itN (itL n) i S = some (enl xs)[i]? := by
  rw [enl_get]; unfold itN; rw [itL_at hn]; rfl
theorem unl_no {f : Nat} {x y : Option Nat} (hx : x = none ∨ x = some f) (hy : y = none ∨ y = some f) : unl x y = false := by
  rcases hx with rfl | rfl <;> rcases hy with rfl | rfl <;> simp [unl]
theorem has_more {e : En} {j : Nat} {o : Option Nat} (ho : e.2[j]? = some o) (H : Rw → Prop) (p : Rw) : ((H p ∨ HasE e j p) ∨ (o ≠ none ∧ p = e.1.take (j + 1))) ↔ (H p ∨ HasE e (j + 1) p) := by
  constructor
  · rintro ((h | ⟨i, k, h1, h2, h3⟩) | ⟨h1, h2⟩)
    · exact .inl h
    · exact .inr ⟨i, k, by omega, h2, h3⟩
    · cases o with
      | none => exact absurd rfl h1
      | some k => exact .inr ⟨j, k, by omega, h2.symm, ho⟩
  · rintro (h | ⟨i, k, h1, h2, h3⟩)
    · exact .inl (.inl h)
    · by_cases e1 : i = j
      · subst e1
        rw [ho] at h3; cases h3
        exact .inr ⟨fun z => (by cases z), h2.symm⟩
      · exact .inl (.inr ⟨i, k, by omega, h2, h3⟩)
theorem told_ok {S : Sto} {n : Nat} {sh : List En} {f : Rw → Nat} (h : lstOf S n = some (sh.map enD)) (ok : ∀ e ∈ sh, OkE e) (cs : ∀ e ∈ sh, Cs f e) (hl : sh.length ≤ 1000) : Wo (m_told_answers [.ref n] S) fun v S' => ∃ m kvs, v = .ref m ∧ S'[m]? = some (.tdct kvs) ∧ Gr S S' ∧ Td f (Has sh) kvs := by
  have sz := sizeBig
  unfold m_told_answers b_told_answers
  simp only [wo_run, List.map_cons, List.map_nil, List.length_cons, List.length_nil, Nat.reduceAdd, Nat.reduceSub, List.replicate, List.cons_append, List.nil_append]
  refine ws_cut (fun l S' => l = [some (.ref n), some (.ref S.length), none, none, none, none, none, none] ∧ S' = S ++ [.tdct []]) (by simp only [wo_run, ws_seq, ws_if, wt_e, we_op, we_un, we_var, we_c, ws_asg, ws_ret, ws_drop, ws_next, ws_break, ws_cont, wg_name, wg_sub, wg_tup, wg_nil, wg_cons, wg_dput, we_call, we_methL, we_methS, wa_cons, wa_nil, wt_and, wt_or, wt_not, we_and, we_or, we_not, we_if, wo_I0, wo_I, wo_plusAI, wo_plusAT, we_slA, wp_none, wp_some, ex_int1, wo_slT, wo_intAB, wo_times, wo_ixT, wo_ixL, wo_ixAT, wo_ixAL, wo_ixAS, wo_lenT, wo_lenL, wo_lenAT, wo_lenAL, wo_lenAS, wo_abs, wo_intB, wo_tup, wo_lst, wo_tupleL, wo_eqI, wo_eqB, wo_eqSt, wo_neS, wo_neB, wo_neI, wo_is, wo_isnot, wo_str, wo_isI_bl, wo_isI_int, wo_isI_str, wo_isI_tup, wo_isI_non, isI_same, List.map_cons, List.map_nil, List.length_cons, List.length_nil, Nat.reduceAdd, Nat.reduceSub, List.replicate, List.cons_append, List.nil_append, List.getElem?_cons_zero, List.getElem?_cons_succ, List.set_cons_zero, List.set_cons_succ, ex_some, ex_some1, ex_bl, ex_int, at3_0, at3_1, at3_2, at2_0, at2_1, lstOf_last, decide_eq_true_eq, we_get1, we_get2, we_callV, we_fnc, we_dictT, wg_putX, and_self]) ?_
  rintro l S1 ⟨rfl, rfl⟩
  refine ws_cut (fun l S' => ∃ kvs x2 x3 x4 x5 x6 x7, l = [some (.ref n), some (.ref S.length), x2, x3, x4, x5, x6, x7] ∧ S' = S ++ [.tdct kvs] ∧ Td f (Has sh) kvs) ?_ ?_
  · refine ws_forI (enl (sh.map enD)) (fun i l S' => ∃ kvs x2 x3 x4 x5 x6 x7, l = [some (.ref n), some (.ref S.length), x2, x3, x4, x5, x6, x7] ∧ S' = S ++ [.tdct kvs] ∧ kvs.length ≤ 12 * i ∧ Td f (Has (sh.take i)) kvs) (fun _ _ => False) (enL_im rfl (Gr.lst ⟨_, rfl⟩ h)) ⟨[], none, none, none, none, none, none, rfl, rfl, Nat.le_refl _, ⟨fun p hp => (by obtain ⟨e, he, _⟩ := hp; simp at he), fun p _ => rfl⟩⟩ ?_ ?_ ?_ (fun d l' S' z => z.elim)
    · rintro i l S' ⟨kvs, x2, x3, x4, x5, x6, x7, rfl, rfl, _, _⟩
      exact itNL_at (Gr.lst ⟨_, rfl⟩ h)
    · rintro i x l S2 hx ⟨kvs, x2, x3, x4, x5, x6, x7, rfl, rfl, hkl, td⟩
      rw [enl_get, List.getElem?_map] at hx
      obtain ⟨y, hy, rfl⟩ := Option.map_eq_some_iff.mp hx
      obtain ⟨e, he, rfl⟩ := Option.map_eq_some_iff.mp hy
      have ke := ok e (List.mem_of_getElem? he)
      have ce := cs e (List.mem_of_getElem? he)
      have hi : i < sh.length := (List.getElem?_eq_some_iff.mp he).1
      have l12 := ke.l12
      have len := ke.len
      unfold enD
      simp only [wg_tup, wg_cons, wg_nil, wg_name, List.length_cons, List.length_nil, List.set_cons_zero, List.set_cons_succ]
      refine ⟨by first | rfl | trivial, by first | rfl | trivial, ?_⟩
      refine ws_forI (enl (e.2.map oD)) (fun j l S' => ∃ kvs x5 x6 x7, l = [some (.ref n), some (.ref S.length), some (.int (i : Int)), some (rowD e.1), some (.tup (e.2.map oD)), x5, x6, x7] ∧ S' = S ++ [.tdct kvs] ∧ kvs.length ≤ 12 * i + j ∧ Td f (fun p => Has (sh.take i) p ∨ HasE e j p) kvs) (fun _ _ => False) (enT_im rfl) ⟨kvs, x5, x6, x7, rfl, rfl, hkl, td.congr fun p => ⟨.inl, fun z => z.elim id fun ⟨i, k, h1, _⟩ => absurd h1 (Nat.not_lt_zero _)⟩⟩ ?_ ?_ ?_ (fun d l' S' z => z.elim)
      · intro j l S' _
        exact itN_enl
      · rintro j x l S3 hx ⟨kvs, x5, x6, x7, rfl, rfl, hkl, td⟩
        rw [enl_get, List.getElem?_map] at hx
        obtain ⟨y, hy, rfl⟩ := Option.map_eq_some_iff.mp hx
        obtain ⟨o, ho, rfl⟩ := Option.map_eq_some_iff.mp hy
        have hj : j < e.2.length := (List.getElem?_eq_some_iff.mp ho).1
        have hof : o = none ∨ o = some (f (e.1.take (j + 1))) := by
          cases o with
          | none => exact .inl rfl
          | some k => exact .inr (by rw [← ce j k ho])
        simp only [wg_tup, wg_cons, wg_nil, wg_name, List.length_cons, List.length_nil, List.set_cons_zero, List.set_cons_succ]
        refine ⟨by first | rfl | trivial, ?_⟩
        refine ws_cut (fun l S' => l = [some (.ref n), some (.ref S.length), some (.int (i : Int)), some (rowD e.1), some (.tup (e.2.map oD)), some (.int (j : Int)), some (oD o), some (rowD (e.1.take (j + 1)))] ∧ S' = S ++ [.tdct kvs]) ?_ ?_
        · simp only [ws_asg, we_slA, wp_none, wp_some, we_op, we_var, we_c, List.getElem?_cons_zero, List.getElem?_cons_succ, ex_some, wo_plusAI, ex_int1]
          rw [show (j : Int) + 1 = ((j + 1 : Nat) : Int) by omega, wo_slR]
          simp only [wg_name, List.set_cons_zero, List.set_cons_succ]
          first | exact ⟨(by first | rfl | trivial), (by first | rfl | trivial), (by first | rfl | trivial)⟩ | exact ⟨(by first | rfl | trivial), (by first | rfl | trivial)⟩
        rintro l S4 ⟨rfl, rfl⟩
        obtain ⟨x, hx1, hx2⟩ := td.get (e.1.take (j + 1))
        refine ws_cut (fun l S' => l = [some (.ref n), some (.ref S.length), some (.int (i : Int)), some (rowD e.1), some (.tup (e.2.map oD)), some (.int (j : Int)), some (oD o), some (rowD (e.1.take (j + 1)))] ∧ S' = S ++ [.tdct kvs]) ?_ ?_
        · refine ws_if' (fun b S' => b = false ∧ S' = S ++ [.tdct kvs]) ?_ ?_ ?_
          · simp only [wt_e, we_call, wa_cons, wa_nil, we_get1, we_var, List.getElem?_cons_zero, List.getElem?_cons_succ, ex_some]
            refine ⟨isDcT get_new, _, dRdT get_new (tKey_row _), ?_⟩
            rw [hx1]
            refine ⟨_, _, unlike_ok _ _ _, ?_⟩
            rw [unl_no hx2 hof]
            exact ⟨_, rfl, rfl, rfl⟩
          · rintro S5 ⟨z, _⟩; cases z
          · rintro S5 ⟨_, rfl⟩
            rw [ws_next]; exact ⟨rfl, rfl, rfl⟩
        rintro l S5 ⟨rfl, rfl⟩
        have fin : ∀ kvs', kvs'.length ≤ kvs.length + 1 → Td f (fun p => (Has (sh.take i) p ∨ HasE e j p) ∨ (o ≠ none ∧ p = e.1.take (j + 1))) kvs' → Td f (fun p => Has (sh.take i) p ∨ HasE e (j + 1) p) kvs' := fun kvs' _ t => t.congr fun p => has_more ho _ p
        cases o with
        | none =>
          simp only [ws_if, wt_e, we_op, we_var, we_c, List.getElem?_cons_zero, List.getElem?_cons_succ, ex_some, wo_isnot, isNon_oD, Option.isNone_none, Bool.not_true, ex_bl, Bool.false_eq_true, if_false, ws_next]
          exact .inl ⟨(by first | exact .inl rfl | exact .inl trivial | trivial), kvs, _, _, _, rfl, rfl, by omega, fin kvs (by omega) (td.congr fun p => ⟨.inl, fun z => z.elim id fun z => absurd rfl z.1⟩)⟩
        | some k =>
          have ek : k = f (e.1.take (j + 1)) := ce j k ho
          simp only [ws_if, wt_e, we_op, we_var, we_c, List.getElem?_cons_zero, List.getElem?_cons_succ, ex_some, wo_isnot, isNon_oD, Option.isNone_some, Bool.not_false, ex_bl, if_true, ws_asg, wg_putX]
          have hpl := tvPut_len kvs (kR (e.1.take (j + 1))) (oD (some k))
          refine ⟨_, putT_ok get_new (tKey_row _) (by omega), .inl ⟨(by first | exact .inl rfl | exact .inl trivial | trivial), tvPut kvs (kR (e.1.take (j + 1))) (oD (some k)), _, _, _, rfl, by rw [set_last], by omega, fin _ hpl ?_⟩⟩
          rw [ek]
          exact (td.put (e.1.take (j + 1))).congr fun p => ⟨fun z => z.imp id fun z => ⟨fun w => (by cases w), z⟩, fun z => z.imp id fun z => z.2⟩
      · rintro l' S' ⟨kvs, x5, x6, x7, rfl, rfl, hkl, td⟩
        rw [enl_len, List.length_map] at hkl td
        refine .inl ⟨.inl rfl, kvs, _, _, _, _, _, _, rfl, rfl, by omega, td.congr fun p => ?_⟩
        rw [len]
        unfold Has
        rw [List.take_add_one, he]
        constructor
        · rintro (⟨e', h1, h2⟩ | h)
          · exact ⟨e', List.mem_append_left _ h1, h2⟩
          · exact ⟨e, List.mem_append_right _ (by simp), h⟩
        · rintro ⟨e', h1, h2⟩
          rcases List.mem_append.mp h1 with z | z
          · exact .inl ⟨e', z, h2⟩
          · have : e' = e := by simpa using z
            subst this; exact .inr h2
    · rintro l' S' ⟨kvs, x2, x3, x4, x5, x6, x7, rfl, rfl, _, td⟩
      rw [enl_len, List.length_map, List.take_length] at td
      exact ⟨rfl, kvs, _, _, _, _, _, _, rfl, rfl, td⟩
  rintro l S1 ⟨kvs, x2, x3, x4, x5, x6, x7, rfl, rfl, td⟩
  simp only [wo_run, ws_seq, ws_if, wt_e, we_op, we_un, we_var, we_c, ws_asg, ws_ret, ws_drop, ws_next, ws_break, ws_cont, wg_name, wg_sub, wg_tup, wg_nil, wg_cons, wg_dput, we_call, we_methL, we_methS, wa_cons, wa_nil, wt_and, wt_or, wt_not, we_and, we_or, we_not, we_if, wo_I0, wo_I, wo_plusAI, wo_plusAT, we_slA, wp_none, wp_some, ex_int1, wo_slT, wo_intAB, wo_times, wo_ixT, wo_ixL, wo_ixAT, wo_ixAL, wo_ixAS, wo_lenT, wo_lenL, wo_lenAT, wo_lenAL, wo_lenAS, wo_abs, wo_intB, wo_tup, wo_lst, wo_tupleL, wo_eqI, wo_eqB, wo_eqSt, wo_neS, wo_neB, wo_neI, wo_is, wo_isnot, wo_str, wo_isI_bl, wo_isI_int, wo_isI_str, wo_isI_tup, wo_isI_non, isI_same, List.map_cons, List.map_nil, List.length_cons, List.length_nil, Nat.reduceAdd, Nat.reduceSub, List.replicate, List.cons_append, List.nil_append, List.getElem?_cons_zero, List.getElem?_cons_succ, List.set_cons_zero, List.set_cons_succ, ex_some, ex_some1, ex_bl, ex_int, at3_0, at3_1, at3_2, at2_0, at2_1, lstOf_last, decide_eq_true_eq, we_get1, we_get2, we_callV, we_fnc, we_dictT, wg_putX]
  exact ⟨_, kvs, rfl, get_new, ⟨_, rfl⟩, td⟩
end M
namespace M
open PySem L3 G
theorem addR_nd {acc : List Rw} {p : Rw} (h : acc.Nodup) : (addR acc p).Nodup := by
  unfold addR; split
  · exact h
  · rename_i e
    rw [List.nodup_append]
    refine ⟨h, by simp, fun a ha b hb => ?_⟩
    have : b = p := by simpa using hb
    subst this
    exact fun z => e (z ▸ ha)
theorem bgN_nd {row : Rw} {acc : List Rw} (h : acc.Nodup) : ∀ n, (bgN row acc n).Nodup
  | 0 => h
  | n + 1 => by rw [bgN_succ]; exact addR_nd (bgN_nd h n)
theorem bg_nd (sh : List En) : (bg sh).Nodup := by
  unfold bg
  have : ∀ (l : List En) (acc : List Rw), acc.Nodup → (l.foldl (fun a e => bgR a e.1) acc).Nodup := by
    intro l
    induction l with
    | nil => intro acc h; exact h
    | cons e l ih => intro acc h; exact ih _ (bgN_nd h _)
  exact this sh _ (by simp)
def Sh12 (r : Rw) : Prop := SmR r ∧ r.length ≤ 12
theorem addR_all {P : Rw → Prop} {acc : List Rw} {p : Rw} (h : ∀ r ∈ acc, P r) (hp : P p) : ∀ r ∈ addR acc p, P r := fun r hr => by
  unfold addR at hr
  split at hr
  · exact h r hr
  · rcases List.mem_append.mp hr with z | z
    · exact h r z
    · have : r = p := by simpa using z
      subst this; exact hp
theorem bg_12 {sh : List En} (ok : ∀ e ∈ sh, OkE e) : ∀ r ∈ bg sh, Sh12 r := by
  have : ∀ (l : List En) (acc : List Rw), (∀ e ∈ l, OkE e) → (∀ r ∈ acc, Sh12 r) → ∀ r ∈ l.foldl (fun a e => bgR a e.1) acc, Sh12 r := by
    intro l
    induction l with
    | nil => intro acc _ h; exact h
    | cons e l ih =>
      intro acc hl h
      refine ih _ (fun e he => hl e (List.mem_cons_of_mem _ he)) ?_
      have ke := hl e List.mem_cons_self
      have : ∀ n, ∀ r ∈ bgN e.1 acc n, Sh12 r := by
        intro n
        induction n with
        | zero => exact h
        | succ n ih2 =>
          rw [bgN_succ]
          exact addR_all ih2 ⟨take_sm ke.sm _, by rw [List.length_take]; have := ke.l12; omega⟩
      exact this _
  refine this sh _ ok fun r hr => ?_
  have : r = [] := by simpa using hr
  subst this
  exact ⟨(fun a ha => by cases ha), by decide⟩
def numF : Nat → List Rw → Tb
  | _, [] => []
  | k, r :: rs => (kR r, .int (k : Nat)) :: numF (k + 1) rs
def ixF (p : Rw) : Nat → List Rw → Option Nat
  | _, [] => none
  | k, r :: rs => if r = p then some k else ixF p (k + 1) rs
def zsF : Nat → List Rw → List D
  | _, [] => []
  | k, r :: rs => .tup [rowD r, .int (k : Nat)] :: zsF (k + 1) rs
theorem num_get (p : Rw) : ∀ (k : Nat) (rs : List Rw), (tvGet (numF k rs) (kR p)).getD .non = oD (ixF p k rs)
  | _, [] => rfl
  | k, r :: rs => by
    unfold numF ixF
    by_cases e : r = p
    · subst e; rw [if_pos rfl]; simp [tvGet, oD]
    · rw [if_neg e]
      have e' : ¬ kR r = kR p := fun z => e (kR_inj z)
      rw [← num_get p (k + 1) rs]
      simp [tvGet, e']
theorem put_new {kvs : Tb} {k : List L2.Key} {v : D} (h : ∀ x ∈ kvs, x.1 ≠ k) : tvPut kvs k v = kvs ++ [(k, v)] := by
  unfold tvPut
  rw [if_neg]
  intro z
  obtain ⟨x, hx, e⟩ := List.any_eq_true.mp z
  exact h x hx (of_decide_eq_true e)
theorem fold_num : ∀ (k : Nat) (rs : List Rw) (acc : Tb), rs.Nodup → (∀ x ∈ acc, ∀ r ∈ rs, x.1 ≠ kR r) → tFold (zsF k rs) acc = some (acc ++ numF k rs)
  | k, [], acc, _, _ => by simp [zsF, numF, tFold]
  | k, r :: rs, acc, nd, h => by
    unfold zsF numF
    show (tKey (rowD r)).bind _ = _
    rw [tKey_row]
    show tFold (zsF (k + 1) rs) (tvPut acc (kR r) (.int (k : Nat))) = _
    rw [put_new (fun x hx => h x hx r List.mem_cons_self), fold_num (k + 1) rs _ (List.nodup_cons.mp nd).2]
    · simp
    · intro x hx q hq
      rcases List.mem_append.mp hx with z | z
      · exact h x z q (List.mem_cons_of_mem _ hq)
      · have : x = (kR r, D.int (k : Nat)) := by simpa using z
        subst this
        exact fun z => (List.nodup_cons.mp nd).1 (by rw [kR_inj z]; exact hq)
theorem zsF_get : ∀ (k : Nat) (rs : List Rw) (i : Nat), (zsF k rs)[i]? = (rs[i]?).map fun r => D.tup [rowD r, .int ((k + i : Nat) : Int)]
  | _, [], i => by simp [zsF]
  | k, r :: rs, 0 => by simp [zsF]
  | k, r :: rs, i + 1 => by
    unfold zsF
    rw [List.getElem?_cons_succ, List.getElem?_cons_succ, zsF_get (k + 1) rs i, show k + 1 + i = k + (i + 1) by omega]
theorem zsF_len : ∀ (k : Nat) (rs : List Rw), (zsF k rs).length = rs.length
  | _, [] => rfl
  | k, r :: rs => by unfold zsF; rw [List.length_cons, List.length_cons, zsF_len]
theorem take_next {α : Type} {xs : List α} {i : Nat} {x : α} (h : xs[i]? = some x) : xs.take (i + 1) = xs.take i ++ [x] := by rw [List.take_add_one, h]; rfl
theorem numbers_ok {as : AM} {l : Lo} {S : Sto} {n : Nat} {bs : List Rw} {Q : D → Sto → Prop} (h : as l S = some ([.ref n], S)) (hn : lstOf S n = some (bs.map rowD)) (nd : bs.Nodup) (hl : bs.length ≤ 1000) (q : Q (.ref S.length) (S ++ [.tdct (numF 0 bs)])) :
    We (eTComp (iEnumA as) [none, none] (gTup3 2 (gCons3 (gName3 0) (gCons3 (gName3 1) (gNil3)))) (tTrue) (eVar 1) (eVar 0)) l S Q := by
  have sz := sizeBig
  obtain ⟨ys, S', e, q1, q2⟩ : ∃ ys S', compG (itN (itL n)) (gTup3 2 (gCons3 (gName3 0) (gCons3 (gName3 1) (gNil3)))) tTrue (ePair (eVar 1) (eVar 0)) ((enl (bs.map rowD)).length + 1) 0 [none, none] S = some (ys, S') ∧ ys = zsF 0 bs ∧ S' = S := by
    obtain ⟨ys, S', l', e, h1, h2, _⟩ := compG_inv (it := itN (itL n)) (g := gTup3 2 (gCons3 (gName3 0) (gCons3 (gName3 1) (gNil3)))) (t := tTrue) (e := ePair (eVar 1) (eVar 0)) (enl (bs.map rowD)) (fun i acc l S' => acc = (zsF 0 bs).take i ∧ S' = S ∧ ∃ x y, l = [x, y]) (fun i acc l S' ⟨_, h, _⟩ => by subst h; exact itNL_at hn) (by
      rintro i x acc l S' hx ⟨rfl, rfl, u, v, rfl⟩
      rw [enl_get, List.getElem?_map] at hx
      obtain ⟨y, hy, rfl⟩ := Option.map_eq_some_iff.mp hx
      obtain ⟨r, hr, rfl⟩ := Option.map_eq_some_iff.mp hy
      simp only [wg_tup, wg_cons, wg_nil, wg_name, List.length_cons, List.length_nil, List.set_cons_zero, List.set_cons_succ]
      refine ⟨by first | rfl | trivial, ?_⟩
      rw [wt_true, if_pos rfl]
      refine ⟨.tup [rowD r, .int (i : Int)], S', rfl, ?_, rfl, _, _, rfl⟩
      have e : (zsF 0 bs)[i]? = some (.tup [rowD r, .int (i : Int)]) := by rw [zsF_get, hr, Nat.zero_add]; rfl
      rw [take_next e]) (enl (bs.map rowD)).length 0 [] [none, none] S rfl ⟨rfl, rfl, _, _, rfl⟩
    rw [List.nil_append] at h1
    have : (zsF 0 bs).take (enl (bs.map rowD)).length = zsF 0 bs := List.take_of_length_le (by rw [zsF_len, enl_len, List.length_map]; exact Nat.le_refl _)
    rw [this] at h1
    exact ⟨ys, S', e, h1, h2⟩
  subst q1 q2
  refine ⟨_, _, ?_, q⟩
  unfold eTComp
  rw [enL_im h hn]
  show (compG (itN (itL n)) _ tTrue (ePair (eVar 1) (eVar 0)) ((enl (bs.map rowD)).length + 1) 0 [none, none] S').bind _ = _
  rw [e]
  show (if (zsF 0 bs).length ≤ sizeLine then _ else _) = _
  rw [if_pos (by rw [zsF_len]; omega), fold_num 0 bs [] nd (fun x hx => by cases hx)]
  rfl
noncomputable def tl (sh : List En) (f : Rw → Nat) (p : Rw) : Option Nat := @ite _ (Has sh p) (Classical.propDecidable _) (some (f p)) none
noncomputable def celD (sh : List En) (f : Rw → Nat) (r : Rw) (a : Nat) : D := .tup [oD (ixF (r ++ [a]) 0 (bg sh)), oD (tl sh f (r ++ [a]))]
noncomputable def celsD (A : Nat) (sh : List En) (f : Rw → Nat) (r : Rw) : List D := (List.range A).map (celD sh f r)
noncomputable def treeD (A : Nat) (sh : List En) (f : Rw → Nat) : D := .tup [.int (A : Nat), .tup ((bg sh).map fun r => .tup (celsD A sh f r))]
theorem tl_get {sh : List En} {f : Rw → Nat} {kvs : Tb} (t : Td f (Has sh) kvs) (p : Rw) : (tvGet kvs (kR p)).getD .non = oD (tl sh f p) := by
  unfold tl
  by_cases h : Has sh p
  · rw [t.yes p h, if_pos h]; rfl
  · rw [t.no p h, if_neg h]; rfl
theorem tree_ok {S : Sto} {n A : Nat} {sh : List En} {f : Rw → Nat} (h : lstOf S n = some (sh.map enD)) (ok : OkH f sh) (hA : A ≤ 8) : Wo (m_tree_of [.int (A : Nat), .ref n] S) fun v S' => v = treeD A sh f ∧ Gr S S' := by
  have sz := sizeBig
  have b24 := ok.b24
  have hsl := ok.l24
  have hb12 := bg_12 ok.ok
  unfold m_tree_of b_tree_of
  simp only [wo_run, List.map_cons, List.map_nil, List.length_cons, List.length_nil, Nat.reduceAdd, Nat.reduceSub, List.replicate, List.cons_append, List.nil_append]
  refine ws_cut (fun l S' => ∃ m2 kvs, l = [some (.int (A : Nat)), some (.ref n), some (.ref m2), none, none, none] ∧ S'[m2]? = some (.tdct kvs) ∧ Gr S S' ∧ Td f (Has sh) kvs) ?_ ?_
  · simp only [ws_asg, we_call, wa_cons, wa_nil, we_var, List.getElem?_cons_zero, List.getElem?_cons_succ, ex_some]
    refine Wo.mono (told_ok h ok.ok ok.cs (by omega)) ?_
    rintro v S' ⟨m, kvs, rfl, h1, g, t⟩
    simp only [wg_name, List.set_cons_zero, List.set_cons_succ]
    first | exact ⟨(by first | rfl | trivial), m, kvs, rfl, h1, g, t⟩ | exact ⟨m, kvs, rfl, h1, g, t⟩
  rintro l S1 ⟨m2, kvs, rfl, hm2, g1, td⟩
  refine ws_cut (fun l S' => ∃ m3, l = [some (.int (A : Nat)), some (.ref n), some (.ref m2), some (.ref m3), none, none] ∧ S'[m3]? = some (.lst ((bg sh).map rowD)) ∧ S'[m2]? = some (.tdct kvs) ∧ Gr S S') ?_ ?_
  · simp only [ws_asg, we_call, wa_cons, wa_nil, we_var, List.getElem?_cons_zero, List.getElem?_cons_succ, ex_some]
    refine Wo.mono (beg_ok (g1.lst h) ok.ok (by omega)) ?_
    rintro v S' ⟨m, rfl, h1, g⟩
    simp only [wg_name, List.set_cons_zero, List.set_cons_succ]
    first | exact ⟨(by first | rfl | trivial), m, rfl, h1, g.get hm2, g1.trans g⟩ | exact ⟨m, rfl, h1, g.get hm2, g1.trans g⟩
  rintro l S2 ⟨m3, rfl, hm3, hm2, g2⟩
  refine ws_cut (fun l S' => l = [some (.int (A : Nat)), some (.ref n), some (.ref m2), some (.ref m3), none, none] ∧ S' = S2) ?_ ?_
  · have c : ¬ (((bg sh).length : Int) > 24) := by omega
    simp only [wo_run, ws_seq, ws_if, wt_e, we_op, we_un, we_var, we_c, ws_asg, ws_ret, ws_drop, ws_next, ws_break, ws_cont, wg_name, wg_sub, wg_tup, wg_nil, wg_cons, wg_dput, we_call, we_methL, we_methS, wa_cons, wa_nil, wt_and, wt_or, wt_not, we_and, we_or, we_not, we_if, wo_I0, wo_I, wo_plusAI, wo_plusAT, we_slA, wp_none, wp_some, ex_int1, wo_slT, wo_intAB, wo_times, wo_ixT, wo_ixL, wo_ixAT, wo_ixAL, wo_ixAS, wo_lenT, wo_lenL, wo_lenAT, wo_lenAL, wo_lenAS, wo_abs, wo_intB, wo_tup, wo_lst, wo_tupleL, wo_eqI, wo_eqB, wo_eqSt, wo_neS, wo_neB, wo_neI, wo_is, wo_isnot, wo_str, wo_isI_bl, wo_isI_int, wo_isI_str, wo_isI_tup, wo_isI_non, isI_same, List.map_cons, List.map_nil, List.length_cons, List.length_nil, Nat.reduceAdd, Nat.reduceSub, List.replicate, List.cons_append, List.nil_append, List.getElem?_cons_zero, List.getElem?_cons_succ, List.set_cons_zero, List.set_cons_succ, ex_some, ex_some1, ex_bl, ex_int, at3_0, at3_1, at3_2, at2_0, at2_1, lstOf_last, decide_eq_true_eq, we_get1, we_get2, we_callV, we_fnc, we_dictT, wg_putX, lst_of hm3, List.length_map, c, decide_false, Bool.false_eq_true, if_false, and_self]
  rintro l S3 ⟨rfl, rfl⟩
  refine ws_cut (fun l S' => l = [some (.int (A : Nat)), some (.ref n), some (.ref m2), some (.ref m3), some (.ref S3.length), none] ∧ S' = S3 ++ [.tdct (numF 0 (bg sh))]) ?_ ?_
  · rw [ws_asg]
    refine numbers_ok rfl (lst_of hm3) (bg_nd sh) (by omega) ?_
    simp only [wg_name, List.set_cons_zero, List.set_cons_succ]
    first | exact ⟨(by first | rfl | trivial), (by first | rfl | trivial), (by first | rfl | trivial)⟩ | exact ⟨(by first | rfl | trivial), (by first | rfl | trivial)⟩
  rintro l S4 ⟨rfl, rfl⟩
  have hm2' : (S3 ++ [.tdct (numF 0 (bg sh))])[m2]? = some (.tdct kvs) := get_old hm2
  have hm3' : (S3 ++ [.tdct (numF 0 (bg sh))])[m3]? = some (.lst ((bg sh).map rowD)) := get_old hm3
  have hm4 : (S3 ++ [.tdct (numF 0 (bg sh))])[S3.length]? = some (.tdct (numF 0 (bg sh))) := get_new
  have g4 : Gr S (S3 ++ [.tdct (numF 0 (bg sh))]) := g2.trans ⟨_, rfl⟩
  generalize S3 ++ [.tdct (numF 0 (bg sh))] = S4 at hm2' hm3' hm4 g4
  generalize S3.length = m4 at hm4
  clear hm2 hm3
  refine ws_cut (fun l S' => ∃ m5 acc, l = [some (.int (A : Nat)), some (.ref n), some (.ref m2), some (.ref m3), some (.ref m4), some (.ref m5)] ∧ lstOf S' m5 = some acc ∧ acc.length = (bg sh).length ∧ (∀ (j : Nat) r, (bg sh)[j]? = some r → ∃ m, acc[j]? = some (.ref m) ∧ lstOf S' m = some (celsD A sh f r)) ∧ Gr S4 S') ?_ ?_
  · rw [ws_asg]
    refine we_comp ((bg sh).map rowD) (fun i acc l S' => acc.length = i ∧ (∀ (j : Nat) r, j < i → (bg sh)[j]? = some r → ∃ m, acc[j]? = some (.ref m) ∧ lstOf S' m = some (celsD A sh f r)) ∧ Gr S4 S' ∧ ∃ x0, l = [x0, some (.int (A : Nat)), some (.ref m4), some (.ref m2)]) (valL_im rfl (lst_of hm3')) ⟨rfl, (fun j r hj => absurd hj (Nat.not_lt_zero _)), Gr.refl _, _, rfl⟩ (fun i acc l S' hR => itL_at (lst_of (hR.2.2.1.get hm3'))) ?_ ?_
    · rintro i x acc l S5 hx ⟨hl, hacc, g5, x0, rfl⟩
      rw [List.getElem?_map] at hx
      obtain ⟨r, hr, rfl⟩ := Option.map_eq_some_iff.mp hx
      have r12 := hb12 r (List.mem_of_getElem? hr)
      simp only [wg_name, List.set_cons_zero, List.set_cons_succ]
      rw [wt_true, if_pos rfl]
      refine we_compM (rngD 0 A) (fun d => match d with | .int a => celD sh f r a.toNat | _ => .non) (fun S' => Gr S5 S') (fun l => ∃ x0, l = [x0, some (.ref m4), some (rowD r), some (.ref m2)]) (rng_im (n := A) rfl (by omega)) (Gr.refl _) ⟨_, rfl⟩ (fun _ _ _ => rfl) (by rw [rngD_len]; omega) ?_ ?_
      · rintro x l S6 hx ⟨x0, rfl⟩ g6
        obtain ⟨j, hj⟩ := List.mem_iff_getElem?.mp hx
        obtain ⟨ha, rfl⟩ := rngD_get hj
        have h4 := (g5.trans g6).get hm4
        have h2 := (g5.trans g6).get hm2'
        have er : ∀ (T : Sto) (Q : D → Sto → Prop), Wo (dPlusA (rowD r) (.tup [.int (0 + (j : Int))]) T) Q = Q (rowD (r ++ [j])) T := fun T Q => by
          rw [Int.zero_add, show D.tup [.int (j : Int)] = rowD [j] from rfl, wo_catR (by have := r12.2; simp; omega)]
        simp only [wg_name, List.set_cons_zero, List.set_cons_succ]
        refine ⟨g6, ⟨_, rfl⟩, ?_⟩
        simp only [we_call, wa_cons, wa_nil, we_get1, we_op, we_var, List.getElem?_cons_zero, List.getElem?_cons_succ, ex_some, wo_tup, List.length_cons, List.length_nil, er]
        refine ⟨isDcT h4, by omega, _, dRdT h4 (tKey_row _), isDcT h2, by omega, _, dRdT h2 (tKey_row _), by omega, ?_, g6⟩
        rw [num_get, tl_get td]
        show _ = celD sh f r (0 + (j : Int)).toNat
        rw [show (0 + (j : Int)).toNat = j by omega]; rfl
      · rintro S6 g6
        refine ⟨by simp [hl], fun j q hj hq => ?_, g5.trans (g6.trans ⟨_, rfl⟩), _, rfl⟩
        by_cases e : j = i
        · subst e
          rw [hr] at hq; cases hq
          refine ⟨S6.length, by rw [List.getElem?_append_right (by omega), hl]; simp, ?_⟩
          rw [lstOf_last]
          congr 1
          unfold rngD celsD
          rw [List.map_map]
          refine List.map_congr_left fun a _ => ?_
          show celD sh f r (0 + (a : Int)).toNat = _
          rw [show (0 + (a : Int)).toNat = a by omega]
        · obtain ⟨m, e1, e2⟩ := hacc j q (by omega) hq
          exact ⟨m, by rw [List.getElem?_append_left (by omega)]; exact e1, Gr.lst (g6.trans ⟨_, rfl⟩) e2⟩
    · rintro acc l' S5 ⟨hl, hacc, g5, x0, rfl⟩
      rw [List.length_map] at hl hacc
      refine ⟨by omega, ?_⟩
      simp only [wg_name, List.set_cons_zero, List.set_cons_succ]
      refine ⟨(by first | rfl | trivial), S5.length, acc, rfl, lstOf_last, hl, fun j r hr => ?_, g5.trans ⟨_, rfl⟩⟩
      obtain ⟨m, e1, e2⟩ := hacc j r (List.getElem?_eq_some_iff.mp hr).1 hr
      exact ⟨m, e1, Gr.lst ⟨_, rfl⟩ e2⟩
  rintro l S5 ⟨m5, acc, rfl, hm5, hl, hacc, g5⟩
  simp only [ws_ret, we_call, wa_cons, wa_nil, we_var, List.getElem?_cons_zero, List.getElem?_cons_succ, ex_some]
  have eF : acc.map (fun d => match d with | .ref m => D.tup ((lstOf S5 m).getD []) | _ => .non) = (bg sh).map fun r => .tup (celsD A sh f r) := by
    apply List.ext_getElem?
    intro j
    rw [List.getElem?_map, List.getElem?_map]
    cases e : (bg sh)[j]? with
    | none =>
      have : acc[j]? = none := List.getElem?_eq_none (by rw [hl]; exact List.getElem?_eq_none_iff.mp e)
      rw [this]; rfl
    | some r =>
      obtain ⟨m, e1, e2⟩ := hacc j r e
      rw [e1]
      show some (D.tup ((lstOf S5 m).getD [])) = _
      rw [e2]; rfl
  refine we_compM acc (fun d => match d with | .ref m => D.tup ((lstOf S5 m).getD []) | _ => .non) (fun S' => Gr S5 S') (fun l => ∃ x0, l = [x0]) (valL_im rfl hm5) (Gr.refl _) ⟨_, rfl⟩ (fun i S' g => itL_at (g.lst hm5)) (by omega) ?_ ?_
  · rintro x l S6 hx ⟨x0, rfl⟩ g6
    obtain ⟨j, hj⟩ := List.mem_iff_getElem?.mp hx
    obtain ⟨r, hr⟩ : ∃ r, (bg sh)[j]? = some r := ⟨_, List.getElem?_eq_getElem (by rw [← hl]; exact (List.getElem?_eq_some_iff.mp hj).1)⟩
    obtain ⟨m, e1, e2⟩ := hacc j r hr
    rw [hj] at e1; cases e1
    simp only [wg_name, List.set_cons_zero, List.set_cons_succ]
    refine ⟨g6, ⟨_, rfl⟩, ?_⟩
    simp only [we_call, wa_cons, wa_nil, we_var, List.getElem?_cons_zero, ex_some, wo_tupleL, g6.lst e2, ex_some1]
    exact ⟨by show _ = D.tup ((lstOf S5 m).getD []); rw [e2]; rfl, g6⟩
  · rintro S6 g6
    simp only [wo_tupleL, lstOf_last, ex_some1, wo_tup, List.length_cons, List.length_nil]
    refine ⟨by omega, ?_, g4.trans (g5.trans (g6.trans ⟨_, rfl⟩))⟩
    rw [eF]; rfl
end M
namespace M
open PySem L3 G
theorem wo_eqD {S : Sto} {x y : D} {p q : PyData} {Q : D → Sto → Prop} (h1 : pyOf S 60 x = some p) (h2 : pyOf S 60 y = some q) (c1 : p.canLay0 = true) (c2 : q.canLay0 = true) : Wo (dEqD x y S) Q = Q (.bl (p.eqv q)) S := by
  have : dEqD x y S = some (.bl (p.eqv q), S) := by unfold dEqD; rw [h1]; show (pyOf S 60 y).bind _ = _; rw [h2]; show (if _ then _ else _) = _; rw [if_pos ⟨c1, c2⟩]
  rw [this, wo_some]
theorem wo_eqR {S : Sto} {p q : Rw} {Q : D → Sto → Prop} (hp : SmR p) (hq : SmR q) : Wo (dEqD (rowD p) (rowD q) S) Q = Q (.bl (decide (p = q))) S := by
  rw [wo_eqD (py_row hp) (py_row hq) (lay_row p) (lay_row q), eqv_row]
theorem idx_ix (p : Rw) : ∀ (k : Nat) (rs : List Rw), ((((rs.map pyR).map fun q => q.eqv (pyR p)).idxOf? true).map (· + k)) = ixF p k rs
  | _, [] => rfl
  | k, r :: rs => by
    rw [List.map_cons, List.map_cons, eqv_row]
    unfold ixF
    by_cases e : r = p
    · rw [if_pos e]; simp [e, List.idxOf?_cons]
    · rw [if_neg e, ← idx_ix p (k + 1) rs]
      rw [List.idxOf?_cons]
      simp only [decide_eq_false e]
      rw [if_neg (by simp)]
      simp only [Option.map_map]
      congr 1
      funext x
      show x + 1 + k = x + (k + 1)
      omega
theorem ix_mem (p : Rw) : ∀ (k : Nat) (rs : List Rw), (ixF p k rs).isSome = decide (p ∈ rs)
  | _, [] => by simp [ixF]
  | k, r :: rs => by
    unfold ixF
    by_cases e : r = p
    · rw [if_pos e]; simp [e]
    · rw [if_neg e, ix_mem p (k + 1) rs]
      have : ¬ p = r := fun z => e z.symm
      simp [this]
theorem wo_index {S : Sto} {n j : Nat} {rs : List Rw} {p : Rw} {Q : D → Sto → Prop} (h : S[n]? = some (.lst (rs.map rowD))) (hr : ∀ r ∈ rs, SmR r) (hp : SmR p) (hj : ixF p 0 rs = some j) : Wo (mIndex (.ref n) [rowD p] S) Q = Q (.int (j : Nat)) S := by
  have e0 := idx_ix p 0 rs
  rw [hj] at e0
  obtain ⟨i, hi, e1⟩ := Option.map_eq_some_iff.mp e0
  have : i = j := by simpa using e1
  subst this
  have : mIndex (.ref n) [rowD p] S = some (.int (i : Nat), S) := by
    unfold mIndex
    dsimp only
    rw [h]
    show (pyOf S 60 (rowD p)).bind _ = _
    rw [py_row hp]
    show (pyAll S 60 (rs.map rowD)).bind _ = _
    rw [py_rows hr]
    show (if _ then _ else _) = _
    rw [if_pos ⟨lay_row p, lay_rows rs⟩, hi]; rfl
  rw [this, wo_some]
theorem hasE_iff {e : En} (ke : OkE e) (r : Rw) (a : Nat) : HasE e e.1.length (r ++ [a]) ↔ e.1.take (r.length + 1) = r ++ [a] ∧ ∃ k, e.2[r.length]? = some (some k) := by
  constructor
  · rintro ⟨i, k, h1, h2, h3⟩
    have hl := congrArg List.length h2
    rw [List.length_take, List.length_append, List.length_singleton] at hl
    have : i = r.length := by omega
    subst this
    exact ⟨h2, k, h3⟩
  · rintro ⟨h1, k, h2⟩
    have hl := congrArg List.length h1
    rw [List.length_take, List.length_append, List.length_singleton] at hl
    exact ⟨r.length, k, by omega, h1, h2⟩
theorem has_take {sh : List En} {i : Nat} {e : En} (he : sh[i]? = some e) (p : Rw) : Has (sh.take (i + 1)) p ↔ (Has (sh.take i) p ∨ HasE e e.1.length p) := by
  unfold Has
  rw [take_next he]
  constructor
  · rintro ⟨e', h1, h2⟩
    rcases List.mem_append.mp h1 with z | z
    · exact .inl ⟨e', z, h2⟩
    · have : e' = e := by simpa using z
      subst this; exact .inr h2
  · rintro (⟨e', h1, h2⟩ | h)
    · exact ⟨e', List.mem_append_left _ h1, h2⟩
    · exact ⟨e, List.mem_append_right _ (by simp), h⟩
theorem tl_pos {sh : List En} {f : Rw → Nat} {p : Rw} (h : Has sh p) : tl sh f p = some (f p) := by unfold tl; rw [if_pos h]
theorem tl_neg {sh : List En} {f : Rw → Nat} {p : Rw} (h : ¬ Has sh p) : tl sh f p = none := by unfold tl; rw [if_neg h]
theorem tl_same {sh sh' : List En} {f : Rw → Nat} {p : Rw} (h : Has sh p ↔ Has sh' p) : tl sh f p = tl sh' f p := by
  by_cases e : Has sh p
  · rw [tl_pos e, tl_pos (h.mp e)]
  · rw [tl_neg e, tl_neg fun z => e (h.mpr z)]
theorem ltree_ok {S : Sto} {n A : Nat} {sh : List En} {f : Rw → Nat} (h : lstOf S n = some (sh.map enD)) (ok : OkH f sh) (hA : A ≤ 8) : Wo (m_law_tree [.int (A : Nat), .ref n] S) fun v S' => v = treeD A sh f ∧ Gr S S' := by
  have sz := sizeBig
  have b24 := ok.b24
  have hsl := ok.l24
  have hb12 := bg_12 ok.ok
  have hsm : ∀ r ∈ bg sh, SmR r := fun r hr => (hb12 r hr).1
  unfold m_law_tree b_law_tree
  simp only [wo_run, List.map_cons, List.map_nil, List.length_cons, List.length_nil, Nat.reduceAdd, Nat.reduceSub, List.replicate, List.cons_append, List.nil_append]
  refine ws_cut (fun l S' => l = [some (.int (A : Nat)), some (.ref n), some (.ref S.length), none, none, none, none, none, none, none, none] ∧ S' = S ++ [.lst ((bg sh).map rowD)]) ?_ ?_
  · simp only [ws_asg, we_call, wa_cons, wa_nil, we_var, List.getElem?_cons_zero, List.getElem?_cons_succ, ex_some]
    refine Wo.mono (begun_ok h ok.ok (by omega)) ?_
    rintro v S' ⟨rfl, rfl⟩
    simp only [wg_name, List.set_cons_zero, List.set_cons_succ]
    first | exact ⟨(by first | rfl | trivial), (by first | rfl | trivial), (by first | rfl | trivial)⟩ | exact ⟨(by first | rfl | trivial), (by first | rfl | trivial)⟩
  rintro l S1 ⟨rfl, rfl⟩
  obtain ⟨m2, hm2e⟩ : ∃ m2, m2 = S.length := ⟨_, rfl⟩
  rw [← hm2e]
  have hm2 : (S ++ [.lst ((bg sh).map rowD)])[m2]? = some (.lst ((bg sh).map rowD)) := by rw [hm2e]; exact get_new
  have g1 : Gr S (S ++ [.lst ((bg sh).map rowD)]) := ⟨_, rfl⟩
  have lS : S.length < (S ++ [Ob.lst ((bg sh).map rowD)]).length := by simp
  generalize S ++ [.lst ((bg sh).map rowD)] = S1 at hm2 g1 lS
  refine ws_cut (fun l S' => l = [some (.int (A : Nat)), some (.ref n), some (.ref m2), some (.ref S1.length), none, none, none, none, none, none, none] ∧ S' = S1 ++ [.lst []]) (by simp only [wo_run, ws_seq, ws_if, wt_e, we_op, we_un, we_var, we_c, ws_asg, ws_ret, ws_drop, ws_next, ws_break, ws_cont, wg_name, wg_sub, wg_tup, wg_nil, wg_cons, wg_dput, we_call, we_methL, we_methS, wa_cons, wa_nil, wt_and, wt_or, wt_not, we_and, we_or, we_not, we_if, wo_I0, wo_I, wo_plusAI, wo_plusAT, we_slA, wp_none, wp_some, ex_int1, wo_slT, wo_intAB, wo_times, wo_ixT, wo_ixL, wo_ixAT, wo_ixAL, wo_ixAS, wo_lenT, wo_lenL, wo_lenAT, wo_lenAL, wo_lenAS, wo_abs, wo_intB, wo_tup, wo_lst, wo_tupleL, wo_eqI, wo_eqB, wo_eqSt, wo_neS, wo_neB, wo_neI, wo_is, wo_isnot, wo_str, wo_isI_bl, wo_isI_int, wo_isI_str, wo_isI_tup, wo_isI_non, isI_same, List.map_cons, List.map_nil, List.length_cons, List.length_nil, Nat.reduceAdd, Nat.reduceSub, List.replicate, List.cons_append, List.nil_append, List.getElem?_cons_zero, List.getElem?_cons_succ, List.set_cons_zero, List.set_cons_succ, ex_some, ex_some1, ex_bl, ex_int, at3_0, at3_1, at3_2, at2_0, at2_1, lstOf_last, decide_eq_true_eq, we_get1, we_get2, we_callV, we_fnc, we_dictT, wg_putX]; exact ⟨by omega, (by first | rfl | trivial), (by first | rfl | trivial)⟩) ?_
  rintro l S2 ⟨rfl, rfl⟩
  refine ws_cut (fun l S' => ∃ x4 x5 x6 x7 x8 x9 x10, l = [some (.int (A : Nat)), some (.ref n), some (.ref m2), some (.ref S1.length), x4, x5, x6, x7, x8, x9, x10] ∧ S'[S1.length]? = some (.lst ((bg sh).map fun r => .tup (celsD A sh f r))) ∧ Gr S1 S') ?_ ?_
  · refine ws_forLst (n := m2) ((bg sh).map rowD) (fun i l S' => ∃ x4 x5 x6 x7 x8 x9 x10, l = [some (.int (A : Nat)), some (.ref n), some (.ref m2), some (.ref S1.length), x4, x5, x6, x7, x8, x9, x10] ∧ S'[S1.length]? = some (.lst (((bg sh).take i).map fun r => .tup (celsD A sh f r))) ∧ Gr S1 S') (fun _ _ => False) rfl ⟨_, _, _, _, _, _, _, rfl, get_new, ⟨_, rfl⟩⟩ ?_ ?_ ?_ (fun d l' S' z => z.elim)
    · rintro i l S' ⟨x4, x5, x6, x7, x8, x9, x10, rfl, _, g⟩
      exact lst_of (g.get hm2)
    · rintro i x l S3 hx ⟨x4, x5, x6, x7, x8, x9, x10, rfl, h3, g3⟩
      rw [List.getElem?_map] at hx
      obtain ⟨r, hr, rfl⟩ := Option.map_eq_some_iff.mp hx
      have r12 := hb12 r (List.mem_of_getElem? hr)
      have hi : i < (bg sh).length := (List.getElem?_eq_some_iff.mp hr).1
      simp only [wg_name, List.set_cons_zero, List.set_cons_succ]
      refine ws_cut (fun l S' => l = [some (.int (A : Nat)), some (.ref n), some (.ref m2), some (.ref S1.length), some (rowD r), some (.ref S3.length), x6, x7, x8, x9, x10] ∧ S' = S3 ++ [.lst []]) (by simp only [wo_run, ws_seq, ws_if, wt_e, we_op, we_un, we_var, we_c, ws_asg, ws_ret, ws_drop, ws_next, ws_break, ws_cont, wg_name, wg_sub, wg_tup, wg_nil, wg_cons, wg_dput, we_call, we_methL, we_methS, wa_cons, wa_nil, wt_and, wt_or, wt_not, we_and, we_or, we_not, we_if, wo_I0, wo_I, wo_plusAI, wo_plusAT, we_slA, wp_none, wp_some, ex_int1, wo_slT, wo_intAB, wo_times, wo_ixT, wo_ixL, wo_ixAT, wo_ixAL, wo_ixAS, wo_lenT, wo_lenL, wo_lenAT, wo_lenAL, wo_lenAS, wo_abs, wo_intB, wo_tup, wo_lst, wo_tupleL, wo_eqI, wo_eqB, wo_eqSt, wo_neS, wo_neB, wo_neI, wo_is, wo_isnot, wo_str, wo_isI_bl, wo_isI_int, wo_isI_str, wo_isI_tup, wo_isI_non, isI_same, List.map_cons, List.map_nil, List.length_cons, List.length_nil, Nat.reduceAdd, Nat.reduceSub, List.replicate, List.cons_append, List.nil_append, List.getElem?_cons_zero, List.getElem?_cons_succ, List.set_cons_zero, List.set_cons_succ, ex_some, ex_some1, ex_bl, ex_int, at3_0, at3_1, at3_2, at2_0, at2_1, lstOf_last, decide_eq_true_eq, we_get1, we_get2, we_callV, we_fnc, we_dictT, wg_putX]; exact ⟨by omega, (by first | rfl | trivial), (by first | rfl | trivial)⟩) ?_
      rintro l S4 ⟨rfl, rfl⟩
      have l3 : S1.length < S3.length := (List.getElem?_eq_some_iff.mp h3).1
      refine ws_cut (fun l S' => ∃ x6 x7 x8 x9 x10, l = [some (.int (A : Nat)), some (.ref n), some (.ref m2), some (.ref S1.length), some (rowD r), some (.ref S3.length), x6, x7, x8, x9, x10] ∧ S' = S3 ++ [.lst (celsD A sh f r)]) ?_ ?_
      · refine ws_rng (fun j l S' => ∃ x6 x7 x8 x9 x10, l = [some (.int (A : Nat)), some (.ref n), some (.ref m2), some (.ref S1.length), some (rowD r), some (.ref S3.length), x6, x7, x8, x9, x10] ∧ S' = S3 ++ [.lst ((List.range j).map (celD sh f r))]) (fun _ _ => False) (n := A) rfl (by omega) ⟨_, _, _, _, _, rfl, rfl⟩ ?_ ?_ (fun d l' S' z => z.elim)
        · rintro a l S5 ha ⟨x6, x7, x8, x9, x10, rfl, rfl⟩
          have hp : SmR (r ++ [a]) := fun b hb => by
            rcases List.mem_append.mp hb with z | z
            · exact r12.1 b z
            · have : b = a := by simpa using z
              omega
          simp only [wg_name, List.set_cons_zero, List.set_cons_succ]
          refine ws_cut (fun l S' => l = [some (.int (A : Nat)), some (.ref n), some (.ref m2), some (.ref S1.length), some (rowD r), some (.ref S3.length), some (.int (a : Nat)), some (rowD (r ++ [a])), x8, x9, x10] ∧ S' = S3 ++ [.lst ((List.range a).map (celD sh f r))]) ?_ ?_
          · simp only [ws_asg, we_op, we_call, wa_cons, wa_nil, we_var, List.getElem?_cons_zero, List.getElem?_cons_succ, ex_some, wo_tup, List.length_cons, List.length_nil]
            refine ⟨by omega, ?_⟩
            rw [show D.tup [.int (a : Int)] = rowD [a] from rfl, wo_catR (by have := r12.2; simp; omega)]
            simp only [wg_name, List.set_cons_zero, List.set_cons_succ]
            first | exact ⟨(by first | rfl | trivial), (by first | rfl | trivial), (by first | rfl | trivial)⟩ | exact ⟨(by first | rfl | trivial), (by first | rfl | trivial)⟩
          rintro l S6 ⟨rfl, rfl⟩
          refine ws_cut (fun l S' => l = [some (.int (A : Nat)), some (.ref n), some (.ref m2), some (.ref S1.length), some (rowD r), some (.ref S3.length), some (.int (a : Nat)), some (rowD (r ++ [a])), some (oD none), x9, x10] ∧ S' = S3 ++ [.lst ((List.range a).map (celD sh f r))]) (by simp only [wo_run, ws_seq, ws_if, wt_e, we_op, we_un, we_var, we_c, ws_asg, ws_ret, ws_drop, ws_next, ws_break, ws_cont, wg_name, wg_sub, wg_tup, wg_nil, wg_cons, wg_dput, we_call, we_methL, we_methS, wa_cons, wa_nil, wt_and, wt_or, wt_not, we_and, we_or, we_not, we_if, wo_I0, wo_I, wo_plusAI, wo_plusAT, we_slA, wp_none, wp_some, ex_int1, wo_slT, wo_intAB, wo_times, wo_ixT, wo_ixL, wo_ixAT, wo_ixAL, wo_ixAS, wo_lenT, wo_lenL, wo_lenAT, wo_lenAL, wo_lenAS, wo_abs, wo_intB, wo_tup, wo_lst, wo_tupleL, wo_eqI, wo_eqB, wo_eqSt, wo_neS, wo_neB, wo_neI, wo_is, wo_isnot, wo_str, wo_isI_bl, wo_isI_int, wo_isI_str, wo_isI_tup, wo_isI_non, isI_same, List.map_cons, List.map_nil, List.length_cons, List.length_nil, Nat.reduceAdd, Nat.reduceSub, List.replicate, List.cons_append, List.nil_append, List.getElem?_cons_zero, List.getElem?_cons_succ, List.set_cons_zero, List.set_cons_succ, ex_some, ex_some1, ex_bl, ex_int, at3_0, at3_1, at3_2, at2_0, at2_1, lstOf_last, decide_eq_true_eq, we_get1, we_get2, we_callV, we_fnc, we_dictT, wg_putX]; exact ⟨(by first | rfl | trivial), (by first | rfl | trivial), (by first | rfl | trivial)⟩) ?_
          rintro l S6 ⟨rfl, rfl⟩
          have hsh : lstOf (S3 ++ [.lst ((List.range a).map (celD sh f r))]) n = some (sh.map enD) := Gr.lst ⟨_, rfl⟩ ((g1.trans g3).lst h)
          refine ws_cut (fun l S' => ∃ x9 x10, l = [some (.int (A : Nat)), some (.ref n), some (.ref m2), some (.ref S1.length), some (rowD r), some (.ref S3.length), some (.int (a : Nat)), some (rowD (r ++ [a])), some (oD (tl sh f (r ++ [a]))), x9, x10] ∧ S' = S3 ++ [.lst ((List.range a).map (celD sh f r))]) ?_ ?_
          · refine ws_forLst (n := n) (sh.map enD) (fun t l S' => ∃ x9 x10, l = [some (.int (A : Nat)), some (.ref n), some (.ref m2), some (.ref S1.length), some (rowD r), some (.ref S3.length), some (.int (a : Nat)), some (rowD (r ++ [a])), some (oD (tl (sh.take t) f (r ++ [a]))), x9, x10] ∧ S' = S3 ++ [.lst ((List.range a).map (celD sh f r))]) (fun _ _ => False) rfl ⟨_, _, by rw [tl_neg (fun ⟨e, he, _⟩ => by simp at he)], rfl⟩ ?_ ?_ ?_ (fun d l' S' z => z.elim)
            · rintro t l S' ⟨x9, x10, rfl, rfl⟩
              exact hsh
            · rintro t x l S7 hx ⟨x9, x10, rfl, rfl⟩
              rw [List.getElem?_map] at hx
              obtain ⟨e, he, rfl⟩ := Option.map_eq_some_iff.mp hx
              have ke := ok.ok e (List.mem_of_getElem? he)
              have ce := ok.cs e (List.mem_of_getElem? he)
              have len := ke.len
              unfold enD
              simp only [wg_tup, wg_cons, wg_nil, wg_name, List.length_cons, List.length_nil, List.set_cons_zero, List.set_cons_succ]
              refine ⟨by first | rfl | trivial, ?_⟩
              have hit := hasE_iff ke r a
              rw [ws_if]
              simp only [wt_and, wt_e, we_op, we_slA, wp_none, wp_some, we_call, wa_cons, wa_nil, we_var, List.getElem?_cons_zero, List.getElem?_cons_succ, ex_some, wo_lenR, ex_int1, wo_slR, List.length_append, List.length_cons, List.length_nil, Nat.zero_add]
              rw [wo_eqR (take_sm ke.sm _) hp]
              simp only [ex_bl]
              by_cases c1 : e.1.take (r.length + 1) = r ++ [a]
              · have hl := congrArg List.length c1
                rw [List.length_take, List.length_append, List.length_singleton] at hl
                obtain ⟨o, ho⟩ : ∃ o, e.2[r.length]? = some o := ⟨_, List.getElem?_eq_getElem (by omega)⟩
                have eo : L2.atI (e.2.map oD) ((r.length : Nat) : Int) = some (oD o) := atI_get (by rw [List.getElem?_map, ho]; rfl)
                simp only [c1, decide_true, if_true, wo_ixAT, eo, ex_some1, we_c, wo_isnot, isNon_oD, ex_bl]
                cases o with
                | none =>
                  simp only [Option.isNone_none, Bool.not_true, Bool.false_eq_true, if_false, ws_next]
                  refine .inl ⟨(by first | exact .inl rfl | exact .inl trivial | trivial), some (rowD e.1), some (.tup (e.2.map oD)), ?_, (by first | rfl | trivial)⟩
                  rw [tl_same (sh := sh.take (t + 1)) (sh' := sh.take t)]
                  rw [has_take he]
                  exact ⟨fun z => z.elim id fun z => (by obtain ⟨_, k, hk⟩ := hit.mp z; rw [ho] at hk; cases hk), .inl⟩
                | some k =>
                  simp only [Option.isNone_some, Bool.not_false, if_true, ws_asg, we_op, we_call, wa_cons, wa_nil, we_var, List.getElem?_cons_zero, List.getElem?_cons_succ, ex_some, wo_lenR, wo_ixAT, eo, ex_some1, wg_name, List.set_cons_zero, List.set_cons_succ]
                  refine .inl ⟨(by first | exact .inl rfl | exact .inl trivial | trivial), some (rowD e.1), some (.tup (e.2.map oD)), ?_, (by first | rfl | trivial)⟩
                  rw [tl_pos ((has_take he _).mpr (.inr (hit.mpr ⟨c1, k, ho⟩)))]
                  have := ce r.length k ho
                  rw [c1] at this
                  rw [this]
              · simp only [c1, decide_false, Bool.false_eq_true, if_false, ws_next]
                refine .inl ⟨(by first | exact .inl rfl | exact .inl trivial | trivial), some (rowD e.1), some (.tup (e.2.map oD)), ?_, (by first | rfl | trivial)⟩
                rw [tl_same (sh := sh.take (t + 1)) (sh' := sh.take t)]
                rw [has_take he]
                exact ⟨fun z => z.elim id fun z => absurd (hit.mp z).1 c1, .inl⟩
            · rintro l' S' ⟨x9, x10, rfl, rfl⟩
              rw [List.length_map, List.take_length]
              exact ⟨rfl, _, _, rfl, rfl⟩
          rintro l S6 ⟨x9', x10', rfl, rfl⟩
          have hm2' : (S3 ++ [.lst ((List.range a).map (celD sh f r))])[m2]? = some (.lst ((bg sh).map rowD)) := get_old (g3.get hm2)
          have fin : ∀ o : Option Nat, o = ixF (r ++ [a]) 0 (bg sh) → Wo (mAppend (.ref S3.length) [.tup [oD o, oD (tl sh f (r ++ [a]))]] (S3 ++ [.lst ((List.range a).map (celD sh f r))])) fun v S' => S' = S3 ++ [.lst ((List.range (a + 1)).map (celD sh f r))] := fun o ho => by
            rw [wo_app get_new (by rw [List.length_map, List.length_range]; omega), set_last, ho, List.range_succ, List.map_append]; rfl
          simp only [ws_drop, we_methL, we_var, List.getElem?_cons_zero, List.getElem?_cons_succ, ex_some, recvL_of get_new, ex_ok, true_and, wa_cons, wa_nil, we_call, we_if, wt_e, we_op]
          rw [wo_inD (lst_of hm2') hsm hp]
          simp only [ex_bl, Bool.false_eq_true, if_false]
          have im := ix_mem (r ++ [a]) 0 (bg sh)
          by_cases c : r ++ [a] ∈ bg sh
          · rw [decide_eq_true c] at im
            obtain ⟨j, hj⟩ := Option.isSome_iff_exists.mp im
            simp only [c, decide_true, if_true, we_methL, we_var, List.getElem?_cons_zero, List.getElem?_cons_succ, ex_some, recvL_of hm2', ex_ok, true_and, wa_cons, wa_nil, wo_index hm2' hsm hp hj, wo_tup, List.length_cons, List.length_nil]
            refine ⟨by omega, Wo.mono (fin (some j) hj.symm) ?_⟩
            rintro v S' rfl
            exact .inl ⟨(by first | exact .inl rfl | exact .inl trivial | trivial), _, _, _, _, _, rfl, rfl⟩
          · rw [decide_eq_false c] at im
            have hj : ixF (r ++ [a]) 0 (bg sh) = none := by cases z : ixF (r ++ [a]) 0 (bg sh) with
              | none => rfl
              | some j => rw [z] at im; cases im
            simp only [c, decide_false, Bool.false_eq_true, if_false, we_c, wo_tup, List.length_cons, List.length_nil]
            refine ⟨by omega, Wo.mono (fin none hj.symm) ?_⟩
            rintro v S' rfl
            exact .inl ⟨(by first | exact .inl rfl | exact .inl trivial | trivial), _, _, _, _, _, rfl, rfl⟩
        · rintro l' S' ⟨x6, x7, x8, x9, x10, rfl, rfl⟩
          exact ⟨rfl, _, _, _, _, _, rfl, rfl⟩
      rintro l S5 ⟨x6', x7', x8', x9', x10', rfl, rfl⟩
      have h3' : (S3 ++ [.lst (celsD A sh f r)])[S1.length]? = some (.lst (((bg sh).take i).map fun r => .tup (celsD A sh f r))) := get_old h3
      simp only [ws_drop, we_methL, we_var, List.getElem?_cons_zero, List.getElem?_cons_succ, ex_some, recvL_of h3', ex_ok, true_and, wa_cons, wa_nil, we_call, wo_tupleL, lstOf_last, ex_some1]
      rw [wo_app h3' (by rw [List.length_map, List.length_take]; omega)]
      refine .inl ⟨(by first | exact .inl rfl | exact .inl trivial | trivial), _, _, _, _, _, _, _, rfl, ?_, (g3.trans ⟨_, rfl⟩).set (Nat.le_refl _) _⟩
      rw [get_setL h3', take_next hr, List.map_append]; rfl
    · rintro l' S' ⟨x4, x5, x6, x7, x8, x9, x10, rfl, h3, g⟩
      rw [List.length_map, List.take_length] at h3
      exact ⟨rfl, _, _, _, _, _, _, _, rfl, h3, g⟩
  rintro l S3 ⟨x4, x5, x6, x7, x8, x9, x10, rfl, h3, g3⟩
  simp only [wo_run, ws_seq, ws_if, wt_e, we_op, we_un, we_var, we_c, ws_asg, ws_ret, ws_drop, ws_next, ws_break, ws_cont, wg_name, wg_sub, wg_tup, wg_nil, wg_cons, wg_dput, we_call, we_methL, we_methS, wa_cons, wa_nil, wt_and, wt_or, wt_not, we_and, we_or, we_not, we_if, wo_I0, wo_I, wo_plusAI, wo_plusAT, we_slA, wp_none, wp_some, ex_int1, wo_slT, wo_intAB, wo_times, wo_ixT, wo_ixL, wo_ixAT, wo_ixAL, wo_ixAS, wo_lenT, wo_lenL, wo_lenAT, wo_lenAL, wo_lenAS, wo_abs, wo_intB, wo_tup, wo_lst, wo_tupleL, wo_eqI, wo_eqB, wo_eqSt, wo_neS, wo_neB, wo_neI, wo_is, wo_isnot, wo_str, wo_isI_bl, wo_isI_int, wo_isI_str, wo_isI_tup, wo_isI_non, isI_same, List.map_cons, List.map_nil, List.length_cons, List.length_nil, Nat.reduceAdd, Nat.reduceSub, List.replicate, List.cons_append, List.nil_append, List.getElem?_cons_zero, List.getElem?_cons_succ, List.set_cons_zero, List.set_cons_succ, ex_some, ex_some1, ex_bl, ex_int, at3_0, at3_1, at3_2, at2_0, at2_1, lstOf_last, decide_eq_true_eq, we_get1, we_get2, we_callV, we_fnc, we_dictT, wg_putX, lst_of h3]
  exact ⟨by omega, rfl, g1.trans g3⟩
end M
namespace M
open PySem L3 G
def shE (by' : Nat) (e : En) : En := (e.1, e.2.map (Option.map fun k => (k + by') % 8))
theorem bg_shE (b : Nat) (sh : List En) : bg (sh.map (shE b)) = bg sh := by
  unfold bg; rw [List.foldl_map]; rfl
theorem okH_sh {f : Rw → Nat} {sh : List En} (h : OkH f sh) (b : Nat) : OkH (fun p => (f p + b) % 8) (sh.map (shE b)) := by
  refine ⟨fun e he => ?_, fun e he => ?_, by rw [bg_shE]; exact h.b24, by rw [List.length_map]; exact h.l24⟩
  · obtain ⟨e0, h0, rfl⟩ := List.mem_map.mp he
    have k := h.ok e0 h0
    refine ⟨by show (e0.2.map _).length = e0.1.length; rw [List.length_map]; exact k.len, k.l12, k.sm, fun q hq => ?_⟩
    obtain ⟨o, _, ho⟩ := List.mem_map.mp hq
    cases o with
    | none => cases ho
    | some j => cases ho; exact Nat.mod_lt _ (by decide)
  · obtain ⟨e0, h0, rfl⟩ := List.mem_map.mp he
    intro i k hk
    have hk : (e0.2.map (Option.map fun k => (k + b) % 8))[i]? = some (some k) := hk
    rw [List.getElem?_map] at hk
    obtain ⟨o, ho, e⟩ := Option.map_eq_some_iff.mp hk
    cases o with
    | none => cases e
    | some j => cases e; show (j + b) % 8 = (f (e0.1.take (i + 1)) + b) % 8; rw [h.cs e0 h0 i j ho]
theorem shifted_ok {S : Sto} {n b : Nat} {sh : List En} {f : Rw → Nat} (h : lstOf S n = some (sh.map enD)) (ok : OkH f sh) : Wo (m_law_shifted [.ref n, .int (b : Nat)] S) fun v S' => ∃ m, v = .ref m ∧ S'[m]? = some (.lst ((sh.map (shE b)).map enD)) ∧ Gr S S' := by
  have sz := sizeBig
  have hsl := ok.l24
  unfold m_law_shifted b_law_shifted
  simp only [wo_run, List.map_cons, List.map_nil, List.length_cons, List.length_nil, Nat.reduceAdd, Nat.reduceSub, List.replicate, List.cons_append, List.nil_append]
  refine ws_cut (fun l S' => l = [some (.ref n), some (.int (b : Nat)), some (.ref S.length), none, none] ∧ S' = S ++ [.lst []]) (by simp only [wo_run, ws_seq, ws_if, wt_e, we_op, we_un, we_var, we_c, ws_asg, ws_ret, ws_drop, ws_next, ws_break, ws_cont, wg_name, wg_sub, wg_tup, wg_nil, wg_cons, wg_dput, we_call, we_methL, we_methS, wa_cons, wa_nil, wt_and, wt_or, wt_not, we_and, we_or, we_not, we_if, wo_I0, wo_I, wo_plusAI, wo_plusAT, we_slA, wp_none, wp_some, ex_int1, wo_slT, wo_intAB, wo_times, wo_ixT, wo_ixL, wo_ixAT, wo_ixAL, wo_ixAS, wo_lenT, wo_lenL, wo_lenAT, wo_lenAL, wo_lenAS, wo_abs, wo_intB, wo_tup, wo_lst, wo_tupleL, wo_eqI, wo_eqB, wo_eqSt, wo_neS, wo_neB, wo_neI, wo_is, wo_isnot, wo_str, wo_isI_bl, wo_isI_int, wo_isI_str, wo_isI_tup, wo_isI_non, isI_same, List.map_cons, List.map_nil, List.length_cons, List.length_nil, Nat.reduceAdd, Nat.reduceSub, List.replicate, List.cons_append, List.nil_append, List.getElem?_cons_zero, List.getElem?_cons_succ, List.set_cons_zero, List.set_cons_succ, ex_some, ex_some1, ex_bl, ex_int, at3_0, at3_1, at3_2, at2_0, at2_1, lstOf_last, decide_eq_true_eq, we_get1, we_get2, we_callV, we_fnc, we_dictT, wg_putX]; exact ⟨by omega, (by first | rfl | trivial), (by first | rfl | trivial)⟩) ?_
  rintro l S1 ⟨rfl, rfl⟩
  refine ws_cut (fun l S' => ∃ x3 x4, l = [some (.ref n), some (.int (b : Nat)), some (.ref S.length), x3, x4] ∧ S'[S.length]? = some (.lst ((sh.map (shE b)).map enD)) ∧ Gr S S') ?_ ?_
  · refine ws_forLst (n := n) (sh.map enD) (fun i l S' => ∃ x3 x4, l = [some (.ref n), some (.int (b : Nat)), some (.ref S.length), x3, x4] ∧ S'[S.length]? = some (.lst (((sh.take i).map (shE b)).map enD)) ∧ Gr S S') (fun _ _ => False) rfl ⟨_, _, rfl, get_new, ⟨_, rfl⟩⟩ ?_ ?_ ?_ (fun d l' S' z => z.elim)
    · rintro i l S' ⟨x3, x4, rfl, _, g⟩
      exact g.lst h
    · rintro i x l S2 hx ⟨x3, x4, rfl, h2, g2⟩
      rw [List.getElem?_map] at hx
      obtain ⟨e, he, rfl⟩ := Option.map_eq_some_iff.mp hx
      have ke := ok.ok e (List.mem_of_getElem? he)
      have len := ke.len
      have l12 := ke.l12
      unfold enD
      simp only [wg_tup, wg_cons, wg_nil, wg_name, List.length_cons, List.length_nil, List.set_cons_zero, List.set_cons_succ]
      refine ⟨by first | rfl | trivial, ?_⟩
      simp only [ws_drop, we_methL, we_var, List.getElem?_cons_zero, List.getElem?_cons_succ, ex_some, recvL_of h2, ex_ok, true_and, wa_cons, wa_nil, we_call]
      refine we_compM (e.2.map oD) (fun d => match d with | .int k => .int ((k + b) % 8) | _ => .non) (fun S' => Gr S2 S') (fun l => ∃ x0, l = [x0, some (.int (b : Nat))]) (valT_im rfl) (Gr.refl _) ⟨_, rfl⟩ (fun _ _ _ => rfl) (by rw [List.length_map]; omega) ?_ ?_
      · rintro x l S3 hx ⟨x0, rfl⟩ g3
        obtain ⟨o, _, rfl⟩ := List.mem_map.mp hx
        simp only [wg_name, List.set_cons_zero, List.set_cons_succ]
        refine ⟨g3, ⟨_, rfl⟩, ?_⟩
        cases o with
        | none =>
          simp only [wt_e, we_op, we_un, we_var, we_c, wg_name, wg_sub, wg_tup, wg_nil, wg_cons, wg_dput, we_call, we_methL, we_methS, wa_cons, wa_nil, wt_and, wt_or, wt_not, we_and, we_or, we_not, we_if, wo_I0, wo_I, wo_plusAI, wo_plusAT, we_slA, wp_none, wp_some, ex_int1, wo_slT, wo_intAB, wo_times, wo_ixT, wo_ixL, wo_ixAT, wo_ixAL, wo_ixAS, wo_lenT, wo_lenL, wo_lenAT, wo_lenAL, wo_lenAS, wo_abs, wo_intB, wo_tup, wo_lst, wo_tupleL, wo_eqI, wo_eqB, wo_eqSt, wo_neS, wo_neB, wo_neI, wo_is, wo_isnot, wo_str, wo_isI_bl, wo_isI_int, wo_isI_str, wo_isI_tup, wo_isI_non, isI_same, List.map_cons, List.map_nil, List.length_cons, List.length_nil, Nat.reduceAdd, Nat.reduceSub, List.replicate, List.cons_append, List.nil_append, List.getElem?_cons_zero, List.getElem?_cons_succ, List.set_cons_zero, List.set_cons_succ, ex_some, ex_some1, ex_bl, ex_int, at3_0, at3_1, at3_2, at2_0, at2_1, lstOf_last, decide_eq_true_eq, we_get1, we_get2, we_callV, we_fnc, we_dictT, wg_putX, isNon_oD, Option.isNone_none, if_true]
          first | exact ⟨(by first | rfl | trivial), g3⟩ | exact ⟨g3⟩
        | some k =>
          simp only [wt_e, we_op, we_un, we_var, we_c, wg_name, wg_sub, wg_tup, wg_nil, wg_cons, wg_dput, we_call, we_methL, we_methS, wa_cons, wa_nil, wt_and, wt_or, wt_not, we_and, we_or, we_not, we_if, wo_I0, wo_I, wo_plusAI, wo_plusAT, we_slA, wp_none, wp_some, ex_int1, wo_slT, wo_intAB, wo_times, wo_ixT, wo_ixL, wo_ixAT, wo_ixAL, wo_ixAS, wo_lenT, wo_lenL, wo_lenAT, wo_lenAL, wo_lenAS, wo_abs, wo_intB, wo_tup, wo_lst, wo_tupleL, wo_eqI, wo_eqB, wo_eqSt, wo_neS, wo_neB, wo_neI, wo_is, wo_isnot, wo_str, wo_isI_bl, wo_isI_int, wo_isI_str, wo_isI_tup, wo_isI_non, isI_same, List.map_cons, List.map_nil, List.length_cons, List.length_nil, Nat.reduceAdd, Nat.reduceSub, List.replicate, List.cons_append, List.nil_append, List.getElem?_cons_zero, List.getElem?_cons_succ, List.set_cons_zero, List.set_cons_succ, ex_some, ex_some1, ex_bl, ex_int, at3_0, at3_1, at3_2, at2_0, at2_1, lstOf_last, decide_eq_true_eq, we_get1, we_get2, we_callV, we_fnc, we_dictT, wg_putX, isNon_oD, Option.isNone_some, Bool.false_eq_true, if_false]
          unfold oD
          simp only [wt_e, we_op, we_un, we_var, we_c, wg_name, wg_sub, wg_tup, wg_nil, wg_cons, wg_dput, we_call, we_methL, we_methS, wa_cons, wa_nil, wt_and, wt_or, wt_not, we_and, we_or, we_not, we_if, wo_I0, wo_I, wo_plusAI, wo_plusAT, we_slA, wp_none, wp_some, ex_int1, wo_slT, wo_intAB, wo_times, wo_ixT, wo_ixL, wo_ixAT, wo_ixAL, wo_ixAS, wo_lenT, wo_lenL, wo_lenAT, wo_lenAL, wo_lenAS, wo_abs, wo_intB, wo_tup, wo_lst, wo_tupleL, wo_eqI, wo_eqB, wo_eqSt, wo_neS, wo_neB, wo_neI, wo_is, wo_isnot, wo_str, wo_isI_bl, wo_isI_int, wo_isI_str, wo_isI_tup, wo_isI_non, isI_same, List.map_cons, List.map_nil, List.length_cons, List.length_nil, Nat.reduceAdd, Nat.reduceSub, List.replicate, List.cons_append, List.nil_append, List.getElem?_cons_zero, List.getElem?_cons_succ, List.set_cons_zero, List.set_cons_succ, ex_some, ex_some1, ex_bl, ex_int, at3_0, at3_1, at3_2, at2_0, at2_1, lstOf_last, decide_eq_true_eq, we_get1, we_get2, we_callV, we_fnc, we_dictT, wg_putX]
          first | exact ⟨by decide, (by first | rfl | trivial), g3⟩ | exact ⟨⟨by decide, by decide⟩, (by first | rfl | trivial), g3⟩ | exact ⟨(by first | rfl | trivial), g3⟩
      · rintro S3 g3
        have h3 := (g3.trans (⟨[.lst ((e.2.map oD).map fun d => match d with | .int k => D.int ((k + b) % 8) | _ => .non)], rfl⟩ : Gr S3 _)).get h2
        simp only [wo_tupleL, lstOf_last, ex_some1, wo_tup, List.length_cons, List.length_nil]
        refine ⟨by omega, ?_⟩
        rw [wo_app h3 (by simp; omega)]
        refine .inl ⟨(by first | exact .inl rfl | exact .inl trivial | trivial), _, _, rfl, ?_, ((g2.trans g3).trans ⟨_, rfl⟩).set (Nat.le_refl _) _⟩
        rw [get_setL h3, take_next he, List.map_append, List.map_append]
        congr 3
        show [D.tup [rowD e.1, .tup _]] = [enD (shE b e)]
        unfold enD shE
        rw [List.map_map, List.map_map]
        congr 4
        refine congrArg D.tup (List.map_congr_left fun o _ => ?_)
        cases o with
        | none => rfl
        | some k => show D.int (((k : Int) + (b : Int)) % 8) = D.int ((((k + b) % 8 : Nat)) : Int); congr 1
    · rintro l' S' ⟨x3, x4, rfl, h2, g⟩
      rw [List.length_map, List.take_length] at h2
      exact ⟨rfl, _, _, rfl, h2, g⟩
  rintro l S1 ⟨x3, x4, rfl, h2, g⟩
  simp only [wo_run, ws_seq, ws_if, wt_e, we_op, we_un, we_var, we_c, ws_asg, ws_ret, ws_drop, ws_next, ws_break, ws_cont, wg_name, wg_sub, wg_tup, wg_nil, wg_cons, wg_dput, we_call, we_methL, we_methS, wa_cons, wa_nil, wt_and, wt_or, wt_not, we_and, we_or, we_not, we_if, wo_I0, wo_I, wo_plusAI, wo_plusAT, we_slA, wp_none, wp_some, ex_int1, wo_slT, wo_intAB, wo_times, wo_ixT, wo_ixL, wo_ixAT, wo_ixAL, wo_ixAS, wo_lenT, wo_lenL, wo_lenAT, wo_lenAL, wo_lenAS, wo_abs, wo_intB, wo_tup, wo_lst, wo_tupleL, wo_eqI, wo_eqB, wo_eqSt, wo_neS, wo_neB, wo_neI, wo_is, wo_isnot, wo_str, wo_isI_bl, wo_isI_int, wo_isI_str, wo_isI_tup, wo_isI_non, isI_same, List.map_cons, List.map_nil, List.length_cons, List.length_nil, Nat.reduceAdd, Nat.reduceSub, List.replicate, List.cons_append, List.nil_append, List.getElem?_cons_zero, List.getElem?_cons_succ, List.set_cons_zero, List.set_cons_succ, ex_some, ex_some1, ex_bl, ex_int, at3_0, at3_1, at3_2, at2_0, at2_1, lstOf_last, decide_eq_true_eq, we_get1, we_get2, we_callV, we_fnc, we_dictT, wg_putX]
  exact ⟨_, rfl, h2, g⟩
theorem sh_oD {S : Sto} {k : Nat} {o : Option Nat} (h : ∀ j, o = some j → j < 1000000) : Sh S (k + 1) 10 (oD o) := by
  cases o with
  | none => exact sh_non
  | some j => exact sh_nat (h j rfl)
theorem ix_lt (p : Rw) : ∀ (k : Nat) (rs : List Rw) (j : Nat), ixF p k rs = some j → j < k + rs.length
  | _, [], j, h => by cases h
  | k, r :: rs, j, h => by
    unfold ixF at h
    split at h
    · cases h; simp
    · have := ix_lt p (k + 1) rs j h
      rw [List.length_cons]; omega
theorem tl_lt {sh : List En} {f : Rw → Nat} (ok : OkH f sh) (p : Rw) (j : Nat) (h : tl sh f p = some j) : j < 8 := by
  by_cases e : Has sh p
  · rw [tl_pos e] at h
    cases h
    obtain ⟨x, hx, i, k, h1, h2, h3⟩ := e
    have := ok.cs x hx i k h3
    rw [h2] at this
    rw [← this]
    exact (ok.ok x hx).an k (List.mem_of_getElem? h3)
  · rw [tl_neg e] at h; cases h
theorem sh_tree {S : Sto} {A : Nat} {sh : List En} {f : Rw → Nat} (ok : OkH f sh) (hA : A ≤ 8) : Sh S 140 20000 (treeD A sh f) := by
  have b24 := ok.b24
  unfold treeD
  refine (sh_tup (k := 139) (B := 6000) (n := 2) (fun x hx => ?_) (by simp)).le (by decide)
  rcases List.mem_cons.mp hx with rfl | hx
  · exact (sh_nat (k := 138) (by omega)).le (by decide)
  · have : x = .tup ((bg sh).map fun r => .tup (celsD A sh f r)) := by simpa using hx
    subst this
    refine (sh_tup (k := 138) (B := 240) (n := 24) (fun y hy => ?_) (by rw [List.length_map]; exact b24)).le (by decide)
    obtain ⟨r, _, rfl⟩ := List.mem_map.mp hy
    refine (sh_tup (k := 137) (B := 27) (n := 8) (fun z hz => ?_) (by unfold celsD; rw [List.length_map, List.length_range]; exact hA)).le (by decide)
    obtain ⟨a, _, rfl⟩ := List.mem_map.mp hz
    unfold celD
    refine (sh_tup (k := 136) (B := 10) (n := 2) (fun w hw => ?_) (by simp)).le (by decide)
    rcases List.mem_cons.mp hw with rfl | hw
    · exact sh_oD (k := 135) fun j hj => by have := ix_lt _ _ _ _ hj; omega
    · have : w = oD (tl sh f (r ++ [a])) := by simpa using hw
      subst this
      exact sh_oD (k := 135) fun j hj => by have := tl_lt ok _ _ hj; omega
def Ly (S : Sto) (k : Nat) (d : D) : Prop := ∃ p : PyData, p.canLay0 = true ∧ pyOf S k d = some p
theorem ly_all {S : Sto} {k : Nat} : ∀ (xs : List D), (∀ x ∈ xs, Ly S k x) → ∃ ps, PyData.canLayAll0 ps = true ∧ pyAll S k xs = some ps
  | [], _ => ⟨[], by simp [PyData.canLayAll0], by unfold pyAll; rfl⟩
  | x :: xs, h => by
    obtain ⟨p, c, e⟩ := h x List.mem_cons_self
    obtain ⟨ps, cs, es⟩ := ly_all xs fun y hy => h y (List.mem_cons_of_mem _ hy)
    refine ⟨p :: ps, by rw [PyData.canLayAll0, c, cs]; rfl, ?_⟩
    unfold pyAll
    show (pyOf S k x).bind _ = _
    rw [e]
    show (pyAll S k xs).bind _ = _
    rw [es]; rfl
theorem ly_tup {S : Sto} {k : Nat} {xs : List D} (h : ∀ x ∈ xs, Ly S k x) : Ly S (k + 1) (.tup xs) := by
  obtain ⟨ps, c, e⟩ := ly_all xs h
  refine ⟨.tuple ps, by rw [PyData.canLay0]; exact c, ?_⟩
  unfold pyOf
  rw [e]; rfl
theorem ly_oD {S : Sto} {k : Nat} {o : Option Nat} (h : ∀ j, o = some j → j < 1000000) : Ly S (k + 1) (oD o) := by
  cases o with
  | none => exact ⟨.none, rfl, by unfold oD pyOf; rfl⟩
  | some j => exact ⟨.int (j : Int), rfl, by unfold oD pyOf; rw [if_pos (small_log2 (h j rfl))]⟩
theorem ly_en {S : Sto} {k : Nat} {e : En} (ke : OkE e) : Ly S (k + 3) (enD e) := by
  refine ly_tup fun x hx => ?_
  rcases List.mem_cons.mp hx with rfl | hx
  · exact ⟨pyR e.1, lay_row _, py_row ke.sm⟩
  · have : x = .tup (e.2.map oD) := by simpa using hx
    subst this
    refine ly_tup fun y hy => ?_
    obtain ⟨o, ho, rfl⟩ := List.mem_map.mp hy
    exact ly_oD fun j hj => by subst hj; have := ke.an j ho; omega
theorem wo_neD {S : Sto} {x y : D} {p q : PyData} {Q : D → Sto → Prop} (h1 : pyOf S 60 x = some p) (h2 : pyOf S 60 y = some q) (c1 : p.canLay0 = true) (c2 : q.canLay0 = true) : Wo (dNeD x y S) Q = Q (.bl (!p.eqv q)) S := by
  have : dNeD x y S = some (.bl (!p.eqv q), S) := by unfold dNeD; rw [h1]; show (pyOf S 60 y).bind _ = _; rw [h2]; show (if _ then _ else _) = _; rw [if_pos ⟨c1, c2⟩]
  rw [this]; exact wo_some
theorem wo_neSame {S : Sto} {n m : Nat} {sh : List En} {Q : D → Sto → Prop} (h1 : lstOf S n = some (sh.map enD)) (h2 : lstOf S m = some (sh.map enD)) (ok : ∀ e ∈ sh, OkE e) : Wo (dNeD (.ref n) (.ref m) S) Q = Q (.bl false) S := by
  obtain ⟨ps, c, e⟩ := ly_all (S := S) (k := 59) (sh.map enD) fun x hx => by
    obtain ⟨y, hy, rfl⟩ := List.mem_map.mp hx
    exact ly_en (k := 56) (ok y hy)
  have cl : (PyData.list ps).canLay0 = true := by rw [PyData.canLay0]; exact c
  have e1 : ∀ j, lstOf S j = some (sh.map enD) → pyOf S 60 (.ref j) = some (.list ps) := fun j hj => by
    unfold pyOf; rw [hj]; show (pyAll S 59 (sh.map enD)).bind _ = _; rw [e]; rfl
  rw [wo_neD (e1 n h1) (e1 m h2) cl cl, PySem.SeqAt.eqv_refl _ cl]; rfl
theorem wo_neEq {S : Sto} {x : D} {Q : D → Sto → Prop} (h : Ly S 60 x) : Wo (dNeD x x S) Q = Q (.bl false) S := by
  obtain ⟨p, c, e⟩ := h
  rw [wo_neD e e c c, PySem.SeqAt.eqv_refl _ c]; rfl
theorem wo_timesT {x : D} {xs : List D} {k : Int} {S : Sto} {Q : D → Sto → Prop} : Wo (dTimes (.tup (x :: xs)) (.int k) S) Q = ((0 ≤ k ∧ k < 2 ^ 31 ∧ (xs.length + 1) * k.toNat ≤ sizeLine) ∧ Q (.tup (List.replicate k.toNat (x :: xs)).flatten) S) := wo_ite
theorem wo_extend {n m : Nat} {S : Sto} {xs ys : List D} {Q : D → Sto → Prop} (h1 : S[n]? = some (.lst xs)) (h2 : S[m]? = some (.lst ys)) (hz : xs.length + ys.length ≤ sizeLine) : Wo (mExtend (.ref n) [.ref m] S) Q = Q .non (S.set n (.lst (xs ++ ys))) := by
  have : mExtend (.ref n) [.ref m] S = some (.non, S.set n (.lst (xs ++ ys))) := by unfold mExtend; dsimp only; rw [h1, h2]; dsimp only; rw [if_pos hz]
  rw [this]; exact wo_some
theorem wo_reverse {n : Nat} {S : Sto} {xs : List D} {Q : D → Sto → Prop} (h1 : S[n]? = some (.lst xs)) : Wo (mReverse (.ref n) [] S) Q = Q .non (S.set n (.lst xs.reverse)) := by
  have : mReverse (.ref n) [] S = some (.non, S.set n (.lst xs.reverse)) := by unfold mReverse; dsimp only; rw [h1]
  rw [this]; exact wo_some
theorem wo_clear {n : Nat} {S : Sto} {xs : List D} {Q : D → Sto → Prop} (h1 : S[n]? = some (.lst xs)) : Wo (mClear (.ref n) [] S) Q = Q .non (S.set n (.lst [])) := by
  have : mClear (.ref n) [] S = some (.non, S.set n (.lst [])) := by unfold mClear; dsimp only; rw [h1]
  rw [this]; exact wo_some
theorem wo_listL {n : Nat} {S : Sto} {xs : List D} {Q : D → Sto → Prop} (h : lstOf S n = some xs) : Wo (fList [.ref n] S) Q = Q (.ref S.length) (S ++ [.lst xs]) := by
  have : fList [.ref n] S = some (.ref S.length, S ++ [.lst xs]) := by unfold fList; dsimp only; rw [h]; rfl
  rw [this]; exact wo_some
theorem okH_nil : OkH (fun _ => 0) [] := ⟨fun e he => (by cases he), fun e he => (by cases he), by decide, by decide⟩
theorem tree_nil (A : Nat) : treeD A [] (fun _ => 0) = .tup [.int (A : Nat), .tup [.tup (List.replicate A (.tup [.non, .non]))]] := by
  have e : celsD A [] (fun _ => 0) [] = List.replicate A (.tup [.non, .non]) := by
    unfold celsD
    rw [List.eq_replicate_iff]
    refine ⟨by simp, fun d hd => ?_⟩
    obtain ⟨a, _, rfl⟩ := List.mem_map.mp hd
    unfold celD
    rw [tl_neg (fun ⟨e, he, _⟩ => by simp at he)]
    rfl
  unfold treeD
  show D.tup [.int (A : Nat), .tup [.tup (celsD A [] (fun _ => 0) [])]] = _
  rw [e]
theorem ly_nil {S : Sto} {A : Nat} (hA : A ≤ 8) : Ly S 60 (treeD A [] (fun _ => 0)) := by
  rw [tree_nil]
  refine ly_tup fun x hx => ?_
  rcases List.mem_cons.mp hx with rfl | hx
  · exact ly_oD (k := 58) (o := some A) fun j hj => by cases hj; omega
  · have : x = .tup [.tup (List.replicate A (.tup [.non, .non]))] := by simpa using hx
    subst this
    refine ly_tup fun y hy => ?_
    have : y = .tup (List.replicate A (.tup [.non, .non])) := by simpa using hy
    subst this
    refine ly_tup fun z hz => ?_
    have := (List.mem_replicate.mp hz).2
    subst this
    refine ly_tup fun w hw => ?_
    have : w = .non := by simpa using hw
    subst this
    exact ly_oD (k := 55) (o := none) fun j hj => by cases hj
end M
namespace M
open PySem L3 G
theorem ne_trees {S : Sto} {A : Nat} {sh : List En} {f : Rw → Nat} (ok : OkH f sh) (hA : A ≤ 8) : ∃ z : Str, ∀ (T : Sto) (Q : D → Sto → Prop), Gr S T → Wo (fRepr [treeD A sh f] T) Q = Q (.str z) T := by
  obtain ⟨pd, hz, hpy⟩ := sh_tree (S := S) ok hA
  have sz := sizeBig
  exact ⟨pd.shown, fun T Q g => wo_repr_of (hpy T g) (by omega)⟩
theorem law_true (ns : List Int) (hl : ns.length ≤ 63) : ∃ S', m_law [.ref 0] [.flst (ns.map D.int)] = some (.bl true, S') := by
  have sz := sizeBig
  suffices h : Wo (m_law [.ref 0] [.flst (ns.map D.int)]) fun v S' => v = .bl true by
    obtain ⟨v, S', e, rfl⟩ := h
    exact ⟨S', e⟩
  unfold m_law b_law
  simp only [wo_run, List.map_cons, List.map_nil, List.length_cons, List.length_nil, Nat.reduceAdd, Nat.reduceSub, List.replicate, List.cons_append, List.nil_append]
  refine ws_cut (fun l S => l = [some (.ref 0), some (.ref 1), none, none, none, none, none, none, none, none, none] ∧ PQ ns 0 S) ?_ ?_
  · simp only [ws_asg, we_call, wa_cons, wa_nil, we_var, List.getElem?_cons_zero, ex_some]
    unfold m_law_pen b_law_pen
    simp only [wo_run, ws_seq, ws_if, wt_e, we_op, we_un, we_var, we_c, ws_asg, ws_ret, ws_drop, ws_next, ws_break, ws_cont, wg_name, wg_sub, wg_tup, wg_nil, wg_cons, wg_dput, we_call, we_methL, we_methS, wa_cons, wa_nil, wt_and, wt_or, wt_not, we_and, we_or, we_not, we_if, wo_I0, wo_I, wo_plusAI, wo_plusAT, we_slA, wp_none, wp_some, ex_int1, wo_slT, wo_intAB, wo_times, wo_ixT, wo_ixL, wo_ixAT, wo_ixAL, wo_ixAS, wo_lenT, wo_lenL, wo_lenAT, wo_lenAL, wo_lenAS, wo_abs, wo_intB, wo_tup, wo_lst, wo_tupleL, wo_eqI, wo_eqB, wo_eqSt, wo_neS, wo_neB, wo_neI, wo_is, wo_isnot, wo_str, wo_isI_bl, wo_isI_int, wo_isI_str, wo_isI_tup, wo_isI_non, isI_same, List.map_cons, List.map_nil, List.length_cons, List.length_nil, Nat.reduceAdd, Nat.reduceSub, List.replicate, List.cons_append, List.nil_append, List.getElem?_cons_zero, List.getElem?_cons_succ, List.set_cons_zero, List.set_cons_succ, ex_some, ex_some1, ex_bl, ex_int, at3_0, at3_1, at3_2, at2_0, at2_1, lstOf_last, decide_eq_true_eq, we_get1, we_get2, we_callV, we_fnc, we_dictT, wg_putX]
    refine ⟨by omega, (by first | rfl | trivial), (by first | rfl | trivial), 0, 0, rfl, rfl, by decide, by decide, by decide⟩
  rintro l S ⟨rfl, p0⟩
  refine ws_cutO (fun l S => True) (fun d S => False) ?_ ?_ (fun d l1 S1 o => o.elim)
  · refine ws_rng (fun t l S1 => ∃ x2 x3 x4 x5 x6 x7 x8 x9 x10, l = [some (.ref 0), some (.ref 1), x2, x3, x4, x5, x6, x7, x8, x9, x10] ∧ PQ ns (10000 * t) S1) (fun _ _ => False) (n := 3) rfl (by decide) ⟨_, _, _, _, _, _, _, _, _, rfl, p0⟩ ?_ (fun l' S' _ => .inl ⟨rfl, trivial⟩) (fun d l' S' z => z.elim)
    rintro t l S1 ht ⟨x2, x3, x4, x5, x6, x7, x8, x9, x10, rfl, p1⟩
    simp only [wg_name, List.set_cons_zero, List.set_cons_succ]
    have l1 := p1.lt
    refine ws_cut (fun l S' => ∃ many : Nat, many ≤ 24 ∧ l = [some (.ref 0), some (.ref 1), some (.int (t : Int)), some (.int (many : Nat)), x4, x5, x6, x7, x8, x9, x10] ∧ PQ ns (10000 * t + 2) S') ?_ ?_
    · simp only [ws_asg, we_op, we_c, we_call, wa_cons, wa_nil, we_var, List.getElem?_cons_zero, List.getElem?_cons_succ, ex_some]
      refine (draw_ok p1 (by omega) (by decide) (by decide)).mono ?_
      rintro x S2 ⟨⟨d, rfl, hd⟩, p2, f2⟩
      have l2 := p2.lt
      simp only [wo_lst, List.length_cons, List.length_nil]
      refine ⟨by omega, ?_⟩
      refine (draw_ok (p2.gr ⟨_, rfl⟩) (by omega) (by decide) (by decide)).mono ?_
      rintro x S3 ⟨⟨e, rfl, he⟩, p3, f3⟩
      obtain ⟨y, hy, hy2⟩ := pick3 (a := (d : Int)) (b := 24) (c := 3) e he
      have e1 : lstOf S3 S2.length = some [.int (d : Int), .int 24, .int 3] := f3.lst (by omega) lstOf_last
      simp only [wo_ixAL, e1, ex_some1, hy, wg_name, List.set_cons_zero, List.set_cons_succ]
      first | exact ⟨(by first | rfl | trivial), y.toNat, by omega, by rw [Int.toNat_of_nonneg (by omega)], p3.mono (by omega)⟩ | exact ⟨y.toNat, by omega, by rw [Int.toNat_of_nonneg (by omega)], p3.mono (by omega)⟩
    rintro l S2 ⟨many, hm, rfl, p2⟩
    refine ws_cut (fun l S' => ∃ A : Nat, 1 ≤ A ∧ A ≤ 4 ∧ l = [some (.ref 0), some (.ref 1), some (.int (t : Int)), some (.int (many : Nat)), some (.int (A : Nat)), x5, x6, x7, x8, x9, x10] ∧ PQ ns (10000 * t + 3) S') ?_ ?_
    · simp only [ws_asg, we_op, we_c, we_call, wa_cons, wa_nil, we_var, List.getElem?_cons_zero, List.getElem?_cons_succ, ex_some]
      refine (draw_ok p2 (by omega) (by decide) (by decide)).mono ?_
      rintro x S3 ⟨⟨d, rfl, hd⟩, p3, f3⟩
      simp only [wo_plusAI, wg_name, List.set_cons_zero, List.set_cons_succ]
      first | exact ⟨(by first | rfl | trivial), 1 + d, by omega, by omega, by simp, p3⟩ | exact ⟨1 + d, by omega, by omega, by simp, p3⟩
    rintro l S3 ⟨A, A1, A4, rfl, p3⟩
    refine ws_cut (fun l S' => ∃ B : Nat, A + B ≤ 4 ∧ l = [some (.ref 0), some (.ref 1), some (.int (t : Int)), some (.int (many : Nat)), some (.int (A : Nat)), some (.int (B : Nat)), x6, x7, x8, x9, x10] ∧ PQ ns (10000 * t + 4) S') ?_ ?_
    · simp only [ws_asg, we_op, we_c, we_call, wa_cons, wa_nil, we_var, List.getElem?_cons_zero, List.getElem?_cons_succ, ex_some, wo_I0]
      refine (draw_ok p3 (by omega) (by omega) (by omega)).mono ?_
      rintro x S4 ⟨⟨d, rfl, hd⟩, p4, f4⟩
      simp only [wg_name, List.set_cons_zero, List.set_cons_succ]
      first | exact ⟨(by first | rfl | trivial), d, by omega, rfl, p4⟩ | exact ⟨d, by omega, rfl, p4⟩
    rintro l S4 ⟨B, hB, rfl, p4⟩
    refine ws_cut (fun l S' => ∃ n sh f, l = [some (.ref 0), some (.ref 1), some (.int (t : Int)), some (.int (many : Nat)), some (.int (A : Nat)), some (.int (B : Nat)), some (.ref n), x7, x8, x9, x10] ∧ 2 ≤ n ∧ S'[n]? = some (.lst (sh.map enD)) ∧ OkH f sh ∧ PQ ns (10000 * t + 3000) S') ?_ ?_
    · simp only [ws_asg, we_c, we_call, wa_cons, wa_nil, we_var, List.getElem?_cons_zero, List.getElem?_cons_succ, ex_some]
      refine (small_ok p4 (by omega) A4).mono ?_
      rintro x S5 ⟨⟨rs, rfl, okS⟩, p5, f5⟩
      refine (sheet_ok p5 (by omega) okS A4 A1 hm).mono ?_
      rintro x S6 ⟨⟨n, sh, rfl, n2, _, hg, okh, _⟩, p6, f6⟩
      simp only [wg_name, List.set_cons_zero, List.set_cons_succ]
      first | exact ⟨(by first | rfl | trivial), n, sh, tel rs, rfl, n2, hg, okh, p6.mono (by omega)⟩ | exact ⟨n, sh, tel rs, rfl, n2, hg, okh, p6.mono (by omega)⟩
    rintro l S5 ⟨n, sh, f, rfl, n2, hg5, okh, p5⟩
    have hAB : A + B ≤ 8 := by omega
    have eAB : ((A : Nat) : Int) + ((B : Nat) : Int) = ((A + B : Nat) : Int) := by omega
    refine ws_cut (fun l S' => l = [some (.ref 0), some (.ref 1), some (.int (t : Int)), some (.int (many : Nat)), some (.int (A : Nat)), some (.int (B : Nat)), some (.ref n), some (treeD (A + B) sh f), x8, x9, x10] ∧ S'[n]? = some (.lst (sh.map enD)) ∧ PQ ns (10000 * t + 3000) S') ?_ ?_
    · simp only [ws_asg, we_op, we_call, wa_cons, wa_nil, we_var, List.getElem?_cons_zero, List.getElem?_cons_succ, ex_some, wo_plusAI, eAB]
      refine Wo.mono (ltree_ok (lst_of hg5) okh hAB) ?_
      rintro x S6 ⟨rfl, g6⟩
      simp only [wg_name, List.set_cons_zero, List.set_cons_succ]
      first | exact ⟨(by first | rfl | trivial), (by first | rfl | trivial), g6.get hg5, p5.gr g6⟩ | exact ⟨(by first | rfl | trivial), g6.get hg5, p5.gr g6⟩
    rintro l S6 ⟨rfl, hg6, p6⟩
    refine ws_cut (fun l S' => ∃ m b, l = [some (.ref 0), some (.ref 1), some (.int (t : Int)), some (.int (many : Nat)), some (.int (A : Nat)), some (.int (B : Nat)), some (.ref n), some (treeD (A + B) sh f), some (.ref m), x9, x10] ∧ S'[m]? = some (.lst ((sh.map (shE b)).map enD)) ∧ S'[n]? = some (.lst (sh.map enD)) ∧ PQ ns (10000 * t + 3001) S') ?_ ?_
    · simp only [ws_asg, we_op, we_c, we_call, wa_cons, wa_nil, we_var, List.getElem?_cons_zero, List.getElem?_cons_succ, ex_some]
      refine (draw_ok p6 (by omega) (by decide) (by decide)).mono ?_
      rintro x S7 ⟨⟨d, rfl, hd⟩, p7, f7⟩
      have hg7 := f7 _ _ (by omega) hg6
      simp only [wo_plusAI]
      rw [show (1 : Int) + (d : Int) = ((1 + d : Nat) : Int) by omega]
      refine Wo.mono (shifted_ok (b := 1 + d) (lst_of hg7) okh) ?_
      rintro x S8 ⟨m, rfl, hm8, g8⟩
      simp only [wg_name, List.set_cons_zero, List.set_cons_succ]
      first | exact ⟨(by first | rfl | trivial), m, 1 + d, rfl, hm8, g8.get hg7, p7.gr g8⟩ | exact ⟨m, 1 + d, rfl, hm8, g8.get hg7, p7.gr g8⟩
    rintro l S7 ⟨m, b, rfl, hm7, hg7, p7⟩
    have okb := okH_sh okh b
    refine ws_cutO (fun l S' => l = [some (.ref 0), some (.ref 1), some (.int (t : Int)), some (.int (many : Nat)), some (.int (A : Nat)), some (.int (B : Nat)), some (.ref n), some (treeD (A + B) sh f), some (.ref m), x9, x10] ∧ Gr S7 S') (fun d S => False) ?_ ?_ (fun d l1 S1 o => o.elim)
    · refine ws_if' (fun b S' => b = false ∧ Gr S7 S') ?_ ?_ ?_
      · simp only [wt_e, we_op, we_call, wa_cons, wa_nil, we_var, List.getElem?_cons_zero, List.getElem?_cons_succ, ex_some, wo_plusAI, eAB]
        refine Wo.mono (tree_ok (lst_of hm7) okb hAB) ?_
        rintro x S8 ⟨rfl, g8⟩
        obtain ⟨z, hz⟩ := ne_trees (S := S8) okb hAB
        rw [hz S8 _ (Gr.refl _)]
        refine Wo.mono (ltree_ok (lst_of (g8.get hm7)) okb hAB) ?_
        rintro x S9 ⟨rfl, g9⟩
        rw [hz S9 _ g9, wo_neS]
        exact ⟨_, rfl, by simp, g8.trans g9⟩
      · rintro S8 ⟨hb, _⟩; cases hb
      · rintro S8 ⟨_, g8⟩
        rw [ws_next]
        exact .inl ⟨rfl, rfl, g8⟩
    rintro l S8 ⟨rfl, g8⟩
    have hg8 := g8.get hg7
    have p8 := p7.gr g8
    have n8 : n < S8.length := (List.getElem?_eq_some_iff.mp hg8).1
    refine ws_cut (fun l S' => l = [some (.ref 0), some (.ref 1), some (.int (t : Int)), some (.int (many : Nat)), some (.int (A : Nat)), some (.int (B : Nat)), some (.ref n), some (treeD (A + B) sh f), some (.ref m), some (.ref S8.length), x10] ∧ S' = S8 ++ [.lst (sh.map enD)]) ?_ ?_
    · simp only [ws_asg, we_call, wa_cons, wa_nil, we_var, List.getElem?_cons_zero, List.getElem?_cons_succ, ex_some]
      rw [wo_listL (lst_of hg8)]
      simp only [wg_name, List.set_cons_zero, List.set_cons_succ]
      first | exact ⟨(by first | rfl | trivial), (by first | rfl | trivial), (by first | rfl | trivial)⟩ | exact ⟨(by first | rfl | trivial), (by first | rfl | trivial)⟩
    rintro l S9 ⟨rfl, rfl⟩
    have l24 := okh.l24
    refine ws_cutO (fun l S' => ∃ x10, l = [some (.ref 0), some (.ref 1), some (.int (t : Int)), some (.int (many : Nat)), some (.int (A : Nat)), some (.int (B : Nat)), some (.ref n), some (treeD (A + B) sh f), some (.ref m), some (.ref S8.length), x10] ∧ PQ ns (10000 * t + 3001) S') (fun d S => False) ?_ ?_ (fun d l1 S1 o => o.elim)
    · refine ws_rng (fun j l S' => ∃ x10, l = [some (.ref 0), some (.ref 1), some (.int (t : Int)), some (.int (many : Nat)), some (.int (A : Nat)), some (.int (B : Nat)), some (.ref n), some (treeD (A + B) sh f), some (.ref m), some (.ref S8.length), x10] ∧ S'[S8.length]? = some (.lst (sh.map enD)) ∧ S'[n]? = some (.lst (sh.map enD)) ∧ PQ ns (10000 * t + 3001) S') (fun _ _ => False) (n := 2) rfl (by decide) ⟨_, rfl, get_new, get_old hg8, p8.gr ⟨_, rfl⟩⟩ ?_ (fun l' S' ⟨x10, e, _, _, p⟩ => .inl ⟨rfl, x10, e, p⟩) (fun d l' S' z => z.elim)
      rintro j l S10 hj ⟨x10, rfl, h9, hn, p10⟩
      simp only [wg_name, List.set_cons_zero, List.set_cons_succ]
      refine ws_cutO (fun l S' => l = [some (.ref 0), some (.ref 1), some (.int (t : Int)), some (.int (many : Nat)), some (.int (A : Nat)), some (.int (B : Nat)), some (.ref n), some (treeD (A + B) sh f), some (.ref m), some (.ref S8.length), some (.int (j : Int))] ∧ Gr S10 S') (fun d S => False) ?_ ?_ (fun d l1 S1 o => o.elim)
      · refine ws_if' (fun b S' => b = false ∧ Gr S10 S') ?_ ?_ ?_
        · simp only [wt_or, wt_e, we_op, we_call, wa_cons, wa_nil, we_var, List.getElem?_cons_zero, List.getElem?_cons_succ, ex_some, wo_plusAI, eAB]
          refine Wo.mono (tree_ok (lst_of h9) okh hAB) ?_
          rintro x S11 ⟨rfl, g11⟩
          obtain ⟨z, hz⟩ := ne_trees (S := S11) okh hAB
          rw [hz S11 _ (Gr.refl _), hz S11 _ (Gr.refl _), wo_neS]
          refine ⟨_, rfl, ?_⟩
          rw [if_neg (by simp), wo_neSame (lst_of (g11.get h9)) (lst_of (g11.get hn)) okh.ok]
          exact ⟨_, rfl, rfl, g11⟩
        · rintro S11 ⟨hb, _⟩; cases hb
        · rintro S11 ⟨_, g11⟩
          rw [ws_next]
          exact .inl ⟨rfl, rfl, g11⟩
      rintro l S11 ⟨rfl, g11⟩
      have h9' := g11.get h9
      have hn' := g11.get hn
      have p11 := p10.gr g11
      have nn : S8.length ≠ n := by omega
      have e8 : 2 ≤ S8.length := p8.lt
      refine ws_cut (fun l S' => l = [some (.ref 0), some (.ref 1), some (.int (t : Int)), some (.int (many : Nat)), some (.int (A : Nat)), some (.int (B : Nat)), some (.ref n), some (treeD (A + B) sh f), some (.ref m), some (.ref S8.length), some (.int (j : Int))] ∧ S' = S11.set S8.length (.lst (sh.map enD).reverse)) ?_ ?_
      · simp only [ws_drop, we_methL, we_var, List.getElem?_cons_zero, List.getElem?_cons_succ, ex_some, recvL_of h9', ex_ok, true_and, wa_nil]
        rw [wo_reverse h9']
        all_goals exact ⟨(by first | rfl | trivial), (by first | rfl | trivial), (by first | rfl | trivial)⟩
      rintro l S12 ⟨rfl, rfl⟩
      have h12 : (S11.set S8.length (.lst (sh.map enD).reverse))[S8.length]? = some (.lst (sh.map enD).reverse) := get_setL h9'
      refine ws_cut (fun l S' => l = [some (.ref 0), some (.ref 1), some (.int (t : Int)), some (.int (many : Nat)), some (.int (A : Nat)), some (.int (B : Nat)), some (.ref n), some (treeD (A + B) sh f), some (.ref m), some (.ref S8.length), some (.int (j : Int))] ∧ S' = (S11.set S8.length (.lst (sh.map enD).reverse)).set S8.length (.lst [])) ?_ ?_
      · simp only [ws_drop, we_methL, we_var, List.getElem?_cons_zero, List.getElem?_cons_succ, ex_some, recvL_of h12, ex_ok, true_and, wa_nil]
        rw [wo_clear h12]
        all_goals exact ⟨(by first | rfl | trivial), (by first | rfl | trivial), (by first | rfl | trivial)⟩
      rintro l S13 ⟨rfl, rfl⟩
      have h13 : ((S11.set S8.length (.lst (sh.map enD).reverse)).set S8.length (.lst []))[S8.length]? = some (.lst []) := get_setL h12
      have hn13 : ((S11.set S8.length (.lst (sh.map enD).reverse)).set S8.length (.lst []))[n]? = some (.lst (sh.map enD)) := get_set_ne (get_set_ne hn' nn) nn
      simp only [ws_drop, we_methL, we_var, List.getElem?_cons_zero, List.getElem?_cons_succ, ex_some, recvL_of h13, ex_ok, true_and, wa_cons, wa_nil]
      rw [wo_extend h13 hn13 (by simp; omega)]
      refine .inl ⟨(by first | exact .inl rfl | exact .inl trivial | trivial), _, rfl, by rw [get_setL h13]; simp, get_set_ne hn13 nn, ((p11.setN e8).setN e8).setN e8⟩
    rintro l S10 ⟨x10, rfl, p10⟩
    refine ws_if' (fun b S' => b = false ∧ PQ ns (10000 * t + 3001) S') ?_ ?_ ?_
    · simp only [wt_e, we_op, we_call, wa_cons, wa_nil, we_var, we_c, List.getElem?_cons_zero, List.getElem?_cons_succ, ex_some, wo_lst, List.length_nil]
      refine ⟨by omega, ?_⟩
      refine Wo.mono (tree_ok (sh := []) (f := fun _ => 0) (A := A) lstOf_last okH_nil (by omega)) ?_
      rintro x S11 ⟨rfl, g11⟩
      simp only [wo_tup, List.length_cons, List.length_nil, wo_timesT]
      have er : D.tup [.int (A : Nat), .tup [.tup (List.replicate ((A : Nat) : Int).toNat [D.tup [.non, .non]]).flatten]] = treeD A [] (fun _ => 0) := by
        rw [tree_nil, Int.toNat_natCast]
        congr 4
        have : ∀ k : Nat, (List.replicate k [D.tup [.non, .non]]).flatten = List.replicate k (D.tup [.non, .non]) := by
          intro k
          induction k with
          | zero => rfl
          | succ k ih => rw [List.replicate_succ, List.flatten_cons, ih]; rfl
        rw [this]
      refine ⟨by omega, by omega, ⟨by omega, by omega, by rw [Int.toNat_natCast]; omega⟩, by omega, by omega, ?_⟩
      rw [er, wo_neEq (ly_nil (by omega))]
      exact ⟨_, rfl, rfl, (p10.gr ⟨_, rfl⟩).gr g11⟩
    · rintro S11 ⟨hb, _⟩; cases hb
    · rintro S11 ⟨_, p11⟩
      rw [ws_next]
      exact .inl ⟨.inl rfl, _, _, _, _, _, _, _, _, _, rfl, p11.mono (by omega)⟩
  · rintro l S1 _
    simp only [wo_run, ws_seq, ws_if, wt_e, we_op, we_un, we_var, we_c, ws_asg, ws_ret, ws_drop, ws_next, ws_break, ws_cont, wg_name, wg_sub, wg_tup, wg_nil, wg_cons, wg_dput, we_call, we_methL, we_methS, wa_cons, wa_nil, wt_and, wt_or, wt_not, we_and, we_or, we_not, we_if, wo_I0, wo_I, wo_plusAI, wo_plusAT, we_slA, wp_none, wp_some, ex_int1, wo_slT, wo_intAB, wo_times, wo_ixT, wo_ixL, wo_ixAT, wo_ixAL, wo_ixAS, wo_lenT, wo_lenL, wo_lenAT, wo_lenAL, wo_lenAS, wo_abs, wo_intB, wo_tup, wo_lst, wo_tupleL, wo_eqI, wo_eqB, wo_eqSt, wo_neS, wo_neB, wo_neI, wo_is, wo_isnot, wo_str, wo_isI_bl, wo_isI_int, wo_isI_str, wo_isI_tup, wo_isI_non, isI_same, List.map_cons, List.map_nil, List.length_cons, List.length_nil, Nat.reduceAdd, Nat.reduceSub, List.replicate, List.cons_append, List.nil_append, List.getElem?_cons_zero, List.getElem?_cons_succ, List.set_cons_zero, List.set_cons_succ, ex_some, ex_some1, ex_bl, ex_int, at3_0, at3_1, at3_2, at2_0, at2_1, lstOf_last, decide_eq_true_eq, we_get1, we_get2, we_callV, we_fnc, we_dictT, wg_putX]
end M
open PySem PySem.W PyProof.Rows
theorem PySem.Challenge.cw_opencells_k36_trees_told_holds : PySem.Challenge.rw_opencells_k36_trees_told.Holds := by
  w_on; o_law; k_head; (case hw => w_witness2)
  k_fill
  refine G.walk (l := PySem.Challenge.rw_opencells_k36_trees_told) rfl rfl (fun w h Y => PySem.W.kIn_of Y) ?F (fun ns hl => M.law_true ns hl)
  case F =>
    intro w mg fa h KX GN hmg
    refine' G.all_mk KX GN hmg ?a0 ?l0 ?c0 ?k0 ?a1 ?l1 ?c1 ?k1 ?a2 ?l2 ?c2 ?k2 ?a3 ?l3 ?c3 ?k3 ?a4 ?l4 ?c4 ?k4 ?a5 ?l5 ?c5 ?k5 ?a6 ?l6 ?c6 ?k6 ?a7 ?l7 ?c7 ?k7 ?a8 ?l8 ?c8 ?k8 ?a9 ?l9 ?c9 ?k9 ?a10 ?l10 ?c10 ?k10 ?a11 ?l11 ?c11 ?k11 ?a12 ?l12 ?c12 ?k12 ?z_list ?z_range ?z_len ?z_enumerate ?z_tuple ?z_abs ?z_repr ?c_MOST_ROOMS
    (case a0 => k_is)
    (case l0 => k_is)
    (case c0 => k_is)
    (case k0 => k_is)
    (case a1 => k_is)
    (case l1 => k_is)
    (case c1 => k_is)
    (case k1 => k_is)
    (case a2 => k_is)
    (case l2 => k_is)
    (case c2 => k_is)
    (case k2 => k_is)
    (case a3 => k_is)
    (case l3 => k_is)
    (case c3 => k_is)
    (case k3 => k_is)
    (case a4 => k_is)
    (case l4 => k_is)
    (case c4 => k_is)
    (case k4 => k_is)
    (case a5 => k_is)
    (case l5 => k_is)
    (case c5 => k_is)
    (case k5 => k_is)
    (case a6 => k_is)
    (case l6 => k_is)
    (case c6 => k_is)
    (case k6 => k_is)
    (case a7 => k_is)
    (case l7 => k_is)
    (case c7 => k_is)
    (case k7 => k_is)
    (case a8 => k_is)
    (case l8 => k_is)
    (case c8 => k_is)
    (case k8 => k_is)
    (case a9 => k_is)
    (case l9 => k_is)
    (case c9 => k_is)
    (case k9 => k_is)
    (case a10 => k_is)
    (case l10 => k_is)
    (case c10 => k_is)
    (case k10 => k_is)
    (case a11 => k_is)
    (case l11 => k_is)
    (case c11 => k_is)
    (case k11 => k_is)
    (case a12 => k_is)
    (case l12 => k_is)
    (case c12 => k_is)
    (case k12 => k_is)
    (case z_list => k_is)
    (case z_range => k_is)
    (case z_len => k_is)
    (case z_enumerate => k_is)
    (case z_tuple => k_is)
    (case z_abs => k_is)
    (case z_repr => k_is)
    (case c_MOST_ROOMS => k_is)
#print axioms PySem.Challenge.cw_opencells_k36_trees_told_holds