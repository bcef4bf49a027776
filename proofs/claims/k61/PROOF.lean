import PyProof.Rows.All
import Wide.All
import OpenK.AllK
import Wide.FinOn
import Lean
import PyProof.EqAt
import PyProof.EqKinds
import PyProof.TupleCall
import PyProof.ReprLen
import PyProof.ReprRoads
import PyProof.P3Eq
import PyProof.SetRoads
import PyProof.IsRules
import PyProof.ListRange
import PyProof.ConsumeWalk
import PyProof.NeKinds
import PyProof.DictTable
import PyProof.Draws
import PyProof.EnumMake
import KE.BitLaws
import KE.KIntText
import KE.KRevIter
import PyProof.Rows.SumAny
import PyProof.StrLawsRepr
import PyProof.Rows.SortStrRead
import PyProof.DictCompW
import PyProof.StrOps2
import PyProof.DictWalks
import OpenK.KOwn
import PyProof.NsDelKeeps
import PyProof.RulesAs
import KE.KIsAll
import PyProof.ExcArgsOwn
import PyProof.ExcAttrAll.ValueError
import PyProof.TupleKey
import PyProof.DictRoadsH
import KE.KSortTup
import KE.KDictSum
import PyProof.Rows.TupDisplay
import PyProof.ZipIter
import PyProof.FactsAll.tuple_1
import PyProof.Rows.StrNews2
import PyProof.Rows.FStr
import PyProof.StrWalks
import PyProof.Rows.StrItems
import PyProof.StrLawsTight
import PyProof.Rows.StrFirst
import PySem.Challenge.RW_opencells_k61_machines_written
set_option Elab.async false
set_option maxHeartbeats 4000000
set_option maxRecDepth 100000
set_option linter.unusedSimpArgs false
set_option linter.unusedVariables false
namespace TS
open PySem PySem.SetTable
noncomputable def F : Nat → Nat → Nat
  | 0, x => x
  | n + 1, x => 5 * F n x + 1
theorem F_add (a : Nat) : ∀ (b x : Nat), F (a + b) x = F a (F b x) := by
  induction a with
  | zero => intro b x; rw [Nat.zero_add]; rfl
  | succ a ih => intro b x; rw [show a + 1 + b = (a + b) + 1 by omega]; show 5 * F (a + b) x + 1 = 5 * F a (F b x) + 1; rw [ih]
theorem F_lin (k : Nat) : ∃ u, ∀ x, F (2 ^ k) x = (4 * (2 ^ k * (2 * u + 1)) + 1) * x + 2 ^ k * (2 * u + 1) := by
  induction k with
  | zero => exact ⟨0, fun x => by show 5 * x + 1 = _; omega⟩
  | succ k ih =>
    obtain ⟨u, h⟩ := ih
    generalize hB : 2 ^ k * (2 * u + 1) = B at h
    refine ⟨2 * u * B + u + B, fun x => ?_⟩
    have e : 2 ^ (k + 1) = 2 ^ k + 2 ^ k := by rw [Nat.pow_succ]; omega
    rw [show F (2 ^ (k + 1)) x = F (2 ^ k) (F (2 ^ k) x) by rw [e]; exact F_add _ _ _, h, h]
    have e2 : 2 ^ (k + 1) * (2 * (2 * u * B + u + B) + 1) = 2 * B * (2 * B + 1) := by
      rw [Nat.pow_succ, ← hB]
      generalize 2 ^ k = p
      grind
    rw [e2]
    clear e2 h hB
    grind
theorem mod_two {M a b : Nat} (hM : 0 < M) (h : a % M = b % M) (h2 : a % (2 * M) ≠ b % (2 * M)) : (a + M) % (2 * M) = b % (2 * M) := by
  have key : ∀ x, x % (2 * M) = x % M ∨ x % (2 * M) = x % M + M := fun x => by
    have e1 : x % (2 * M) < 2 * M := Nat.mod_lt _ (by omega)
    have e2 : x % (2 * M) % M = x % M := Nat.mod_mod_of_dvd x ⟨2, Nat.mul_comm _ _⟩
    by_cases hl : x % (2 * M) < M
    · left; rw [← e2, Nat.mod_eq_of_lt hl]
    · right
      have e3 : x % (2 * M) % M = (x % (2 * M) - M) % M := Nat.mod_eq_sub_mod (by omega)
      have e4 : (x % (2 * M) - M) % M = x % (2 * M) - M := Nat.mod_eq_of_lt (by omega)
      rw [← e2, e3, e4]; omega
  have hb := Nat.mod_lt b hM
  rw [Nat.add_mod, Nat.mod_eq_of_lt (show M < 2 * M by omega)]
  rcases key a with ha | ha <;> rcases key b with hb2 | hb2
  · omega
  · rw [ha, Nat.mod_eq_of_lt (by omega)]; omega
  · rw [ha, hb2, show a % M + M + M = a % M + 2 * M by omega, Nat.add_mod_right, Nat.mod_eq_of_lt (by omega)]; omega
  · omega
theorem F_surj (k : Nat) : ∀ x y : Nat, ∃ n, n < 2 ^ k ∧ F n x % 2 ^ k = y % 2 ^ k := by
  induction k with
  | zero => intro x y; exact ⟨0, by decide, by simp [Nat.mod_one]⟩
  | succ k ih =>
    intro x y
    obtain ⟨n, hn, h⟩ := ih x y
    have e : 2 ^ (k + 1) = 2 * 2 ^ k := by rw [Nat.pow_succ, Nat.mul_comm]
    have hM : 0 < 2 ^ k := Nat.two_pow_pos k
    rw [e]
    by_cases h2 : F n x % (2 * 2 ^ k) = y % (2 * 2 ^ k)
    · exact ⟨n, by omega, h2⟩
    · refine ⟨2 ^ k + n, by omega, ?_⟩
      obtain ⟨u, hl⟩ := F_lin k
      rw [F_add, hl]
      generalize F n x = z at h h2
      generalize 2 ^ k = M at *
      have e3 : (4 * (M * (2 * u + 1)) + 1) * z + M * (2 * u + 1) = z + M + 2 * M * (u + 2 * z * (2 * u + 1)) := by
        grind
      rw [e3, Nat.add_mul_mod_self_left]
      exact mod_two hM h h2
noncomputable def adv (mask : Nat) (p : Probe) : Probe :=
  if p.more > 0 then { p with j := p.j + 1, more := p.more - 1 } else
  let (i, perturb) := leap mask p.i p.perturb
  { p with j := i, more := runEnd mask i - i, i, perturb }
noncomputable def st0 (mask : Nat) (h : Int) : Probe := { j := bits h % (mask + 1), more := runEnd mask (bits h % (mask + 1)) - bits h % (mask + 1), i := bits h % (mask + 1), perturb := bits h, dummy := none }
noncomputable def pn (mask : Nat) (h : Int) : Nat → Probe
  | 0 => st0 mask h
  | n + 1 => adv mask (pn mask h n)
noncomputable def bl (mask : Nat) (h : Int) : Nat → Nat × Nat
  | 0 => (bits h % (mask + 1), bits h)
  | n + 1 => leap mask (bl mask h n).1 (bl mask h n).2
noncomputable def ss (mask : Nat) (h : Int) : Nat → Nat
  | 0 => 0
  | n + 1 => ss mask h n + (runEnd mask (bl mask h n).1 - (bl mask h n).1) + 1
noncomputable def blk (mask : Nat) (b : Nat × Nat) : Probe := { j := b.1, more := runEnd mask b.1 - b.1, i := b.1, perturb := b.2, dummy := none }
theorem pn_in {mask : Nat} {h : Int} {s : Nat} {b : Nat × Nat} (e : pn mask h s = blk mask b) : ∀ d, d ≤ runEnd mask b.1 - b.1 → pn mask h (s + d) = { j := b.1 + d, more := runEnd mask b.1 - b.1 - d, i := b.1, perturb := b.2, dummy := none }
  | 0, _ => by rw [Nat.add_zero, e]; rfl
  | d + 1, hd => by
    show adv mask (pn mask h (s + d)) = _
    rw [pn_in e d (by omega)]
    unfold adv
    rw [if_pos (by show runEnd mask b.1 - b.1 - d > 0; omega)]
    simp only [Probe.mk.injEq, and_true]
    exact ⟨by omega, by omega⟩
theorem pn_ss (mask : Nat) (h : Int) : ∀ n, pn mask h (ss mask h n) = blk mask (bl mask h n)
  | 0 => rfl
  | n + 1 => by
    have e := pn_in (pn_ss mask h n) (runEnd mask (bl mask h n).1 - (bl mask h n).1) (Nat.le_refl _)
    show adv mask (pn mask h (ss mask h n + (runEnd mask (bl mask h n).1 - (bl mask h n).1))) = _
    rw [e]
    unfold adv
    rw [if_neg (by show ¬ (runEnd mask (bl mask h n).1 - (bl mask h n).1 - (runEnd mask (bl mask h n).1 - (bl mask h n).1)) > 0; omega)]
    rfl
theorem runEnd_le (mask i : Nat) : runEnd mask i - i ≤ 9 := by unfold runEnd; split <;> omega
theorem ss_le (mask : Nat) (h : Int) : ∀ n, ss mask h n ≤ 10 * n
  | 0 => Nat.le_refl _
  | n + 1 => by have := ss_le mask h n; have := runEnd_le mask (bl mask h n).1; show ss mask h n + _ + 1 ≤ _; omega
theorem bl_per (mask : Nat) (h : Int) : ∀ n, (bl mask h n).2 = bits h / 32 ^ n
  | 0 => by show bits h = _; simp
  | n + 1 => by show (bl mask h n).2 / 32 = _; rw [bl_per mask h n, Nat.div_div_eq_div_mul, Nat.pow_succ]
theorem bits_lt (h : Int) : bits h < 2 ^ 64 := by
  unfold bits
  have h1 := Int.emod_nonneg h (show (2 ^ 64 : Int) ≠ 0 by decide)
  have h2 := Int.emod_lt_of_pos h (show (0 : Int) < 2 ^ 64 by decide)
  omega
theorem bl_zero (mask : Nat) (h : Int) (n : Nat) : (bl mask h (13 + n)).2 = 0 := by
  rw [bl_per]
  apply Nat.div_eq_of_lt
  have := bits_lt h
  have e : 2 ^ 65 ≤ 32 ^ (13 + n) := by
    rw [Nat.pow_add, show (32 : Nat) ^ 13 = 2 ^ 65 by decide]
    exact Nat.le_mul_of_pos_right _ (Nat.pow_pos (by decide))
  have : (2 : Nat) ^ 64 < 2 ^ 65 := by decide
  omega
theorem bl_lt (mask : Nat) (h : Int) : ∀ n, (bl mask h n).1 ≤ mask
  | 0 => by have := Nat.mod_lt (bits h) (show 0 < mask + 1 by omega); show bits h % (mask + 1) ≤ mask; omega
  | n + 1 => by have := Nat.mod_lt ((bl mask h n).1 * 5 + 1 + (bl mask h n).2 / 32) (show 0 < mask + 1 by omega); show ((bl mask h n).1 * 5 + 1 + (bl mask h n).2 / 32) % (mask + 1) ≤ mask; omega
theorem bl_F (mask : Nat) (h : Int) : ∀ n, (bl mask h (13 + n)).1 = F n (bl mask h 13).1 % (mask + 1)
  | 0 => by have := bl_lt mask h 13; exact (Nat.mod_eq_of_lt (by show (bl mask h 13).1 < mask + 1; omega)).symm
  | n + 1 => by
    show ((bl mask h (13 + n)).1 * 5 + 1 + (bl mask h (13 + n)).2 / 32) % (mask + 1) = (5 * F n _ + 1) % (mask + 1)
    rw [bl_F mask h n, bl_zero, Nat.zero_div, Nat.add_zero, Nat.mul_comm (F n _ % (mask + 1)) 5]
    rw [Nat.add_mod, Nat.mul_mod, Nat.mod_mod, ← Nat.mul_mod, ← Nat.add_mod]
theorem reach {mask k : Nat} (hk : mask + 1 = 2 ^ k) (h : Int) {e : Nat} (he : e ≤ mask) : ∃ n, n < mask + 14 ∧ (bl mask h n).1 = e := by
  obtain ⟨n, hn, hf⟩ := F_surj k (bl mask h 13).1 e
  refine ⟨13 + n, by omega, ?_⟩
  rw [bl_F, hk, hf, ← hk]
  exact Nat.mod_eq_of_lt (by omega)
theorem runEnd_in {mask i : Nat} (h : i ≤ mask) : runEnd mask i ≤ mask := by unfold runEnd; split <;> omega
theorem pn_le (mask : Nat) (h : Int) (n : Nat) : (pn mask h n).j ≤ mask ∧ (pn mask h n).j + (pn mask h n).more ≤ mask ∧ (pn mask h n).dummy = none := by
  induction n with
  | zero =>
    have h1 : bits h % (mask + 1) ≤ mask := by have := Nat.mod_lt (bits h) (show 0 < mask + 1 by omega); omega
    have h2 := runEnd_in h1
    refine ⟨h1, ?_, rfl⟩
    show bits h % (mask + 1) + (runEnd mask (bits h % (mask + 1)) - bits h % (mask + 1)) ≤ mask
    omega
  | succ n ih =>
    obtain ⟨i1, i2, i3⟩ := ih
    show (adv mask (pn mask h n)).j ≤ mask ∧ (adv mask (pn mask h n)).j + (adv mask (pn mask h n)).more ≤ mask ∧ (adv mask (pn mask h n)).dummy = none
    unfold adv
    by_cases hm : (pn mask h n).more > 0
    · rw [if_pos hm]
      exact ⟨by show (pn mask h n).j + 1 ≤ mask; omega, by show (pn mask h n).j + 1 + ((pn mask h n).more - 1) ≤ mask; omega, i3⟩
    · rw [if_neg hm]
      have h1 : (leap mask (pn mask h n).i (pn mask h n).perturb).1 ≤ mask := by
        have := Nat.mod_lt ((pn mask h n).i * 5 + 1 + (pn mask h n).perturb / 32) (show 0 < mask + 1 by omega)
        show ((pn mask h n).i * 5 + 1 + (pn mask h n).perturb / 32) % (mask + 1) ≤ mask
        omega
      have h2 := runEnd_in h1
      exact ⟨h1, by show (leap mask (pn mask h n).i (pn mask h n).perturb).1 + (runEnd mask (leap mask (pn mask h n).i (pn mask h n).perturb).1 - (leap mask (pn mask h n).i (pn mask h n).perturb).1) ≤ mask; omega, i3⟩
end TS
namespace TS
open PySem PySem.SetTable
noncomputable def Ris (xs : Array Nat) : Prop := ∀ i j, i < j → j < xs.size → xs.getD i 0 < xs.getD j 0
theorem getD_any {xs : Array Nat} {i : Nat} (h : i < xs.size) (d e : Nat) : xs.getD i d = xs.getD i e := by simp [Array.getD, h]
theorem get_getD {xs : Array Nat} {i j : Nat} (h : xs[i]? = some j) (d : Nat) : i < xs.size ∧ xs.getD i d = j := by
  obtain ⟨h1, h2⟩ := Array.getElem?_eq_some_iff.mp h
  exact ⟨h1, by simp [Array.getD, h1, h2]⟩
theorem below_go {xs : Array Nat} (hr : Ris xs) (j : Nat) : ∀ (fuel lo hi : Nat), lo ≤ hi → hi ≤ xs.size → hi - lo ≤ fuel → (∀ i, i < lo → xs.getD i 0 < j) → (∀ i, hi ≤ i → i < xs.size → j ≤ xs.getD i 0) →
    below.go xs j fuel lo hi ≤ xs.size ∧ (∀ i, i < below.go xs j fuel lo hi → xs.getD i 0 < j) ∧ ∀ i, below.go xs j fuel lo hi ≤ i → i < xs.size → j ≤ xs.getD i 0 := by
  intro fuel
  induction fuel with
  | zero =>
    intro lo hi h1 h2 h3 h4 h5
    have e : lo = hi := by omega
    subst e
    exact ⟨h2, h4, h5⟩
  | succ fuel ih =>
    intro lo hi h1 h2 h3 h4 h5
    unfold below.go
    by_cases hl : lo < hi
    · rw [if_pos hl]
      dsimp only
      have hm1 : (lo + hi) / 2 < hi := by omega
      have hm2 : lo ≤ (lo + hi) / 2 := by omega
      have hms : (lo + hi) / 2 < xs.size := by omega
      rw [getD_any hms j 0]
      by_cases hx : xs.getD ((lo + hi) / 2) 0 < j
      · rw [if_pos hx]
        refine ih _ _ (by omega) h2 (by omega) (fun i hi' => ?_) h5
        by_cases e : i = (lo + hi) / 2
        · rw [e]; exact hx
        · exact Nat.lt_trans (hr i _ (by omega) hms) hx
      · rw [if_neg hx]
        refine ih _ _ hm2 (by omega) (by omega) h4 fun i hi1 hi2 => ?_
        by_cases e : i = (lo + hi) / 2
        · rw [e]; omega
        · have := hr ((lo + hi) / 2) i (by omega) hi2
          omega
    · rw [if_neg hl]
      have e : lo = hi := by omega
      subst e
      exact ⟨h2, h4, h5⟩
theorem below_ok {xs : Array Nat} (hr : Ris xs) (j : Nat) : below xs j ≤ xs.size ∧ (∀ i, i < below xs j → xs.getD i 0 < j) ∧ ∀ i, below xs j ≤ i → i < xs.size → j ≤ xs.getD i 0 :=
  below_go hr j xs.size 0 xs.size (Nat.zero_le _) (Nat.le_refl _) (by omega) (fun i h => absurd h (Nat.not_lt_zero _)) fun i h1 h2 => by omega
noncomputable def In (t : SetTable) (j : Nat) : Prop := ∃ i : Nat, t.place[i]? = some j
structure TOk (t : SetTable) (es : Array (Int × Value)) : Prop where
  dm : t.dummies = #[]
  sz : t.place.size = es.size
  pw : ∃ k, t.mask + 1 = 2 ^ k ∧ 3 ≤ k
  ris : Ris t.place
  le : ∀ j, In t j → j ≤ t.mask
  ro : es.size * 5 < t.mask * 3
  sm : t.mask < 8192
  pr : ∀ (i : Nat) (h : Int) (v : Value), es[i]? = some (h, v) → ∃ n, t.place[i]? = some (pn t.mask h n).j ∧ ∀ m, m < n → In t (pn t.mask h m).j
theorem pigeon : ∀ (n : Nat) (f : Nat → Option Nat) , (∀ j, j < n + 1 → ∃ i, f j = some i ∧ i < n) → (∀ j j' i, j < n + 1 → j' < n + 1 → f j = some i → f j' = some i → j = j') → False
  | 0, f, h, _ => by obtain ⟨i, _, hi⟩ := h 0 (by omega); omega
  | n + 1, f, h, inj => by
    obtain ⟨a, ha, hal⟩ := h (n + 1) (by omega)
    refine pigeon n (fun j => (f j).map fun i => if i = n then a else i) (fun j hj => ?_) fun j j' i l1 l2 h1 h2 => ?_
    · obtain ⟨i, hi, hil⟩ := h j (by omega)
      refine ⟨if i = n then a else i, by simp [hi], ?_⟩
      split
      · rename_i e
        rcases Nat.lt_or_ge a n with h' | h'
        · exact h'
        · have : a = n := by omega
          have := inj (n + 1) j n (by omega) (by omega) (by rw [ha, this]) (by rw [hi, e])
          omega
      · omega
    · cases e1 : f j with
      | none => rw [e1] at h1; cases h1
      | some i1 =>
        cases e2 : f j' with
        | none => rw [e2] at h2; cases h2
        | some i2 =>
          rw [e1] at h1; rw [e2] at h2
          have h1 : (if i1 = n then a else i1) = i := by simpa using h1
          have h2 : (if i2 = n then a else i2) = i := by simpa using h2
          by_cases c1 : i1 = n <;> by_cases c2 : i2 = n
          · exact inj j j' n (by omega) (by omega) (by rw [e1, c1]) (by rw [e2, c2])
          · rw [if_pos c1] at h1; rw [if_neg c2] at h2
            have := inj (n + 1) j' i (by omega) (by omega) (by rw [ha, h1]) (by rw [e2, h2])
            omega
          · rw [if_neg c1] at h1; rw [if_pos c2] at h2
            have := inj (n + 1) j i (by omega) (by omega) (by rw [ha, h2]) (by rw [e1, h1])
            omega
          · rw [if_neg c1] at h1; rw [if_neg c2] at h2
            exact inj j j' i (by omega) (by omega) (by rw [e1, h1]) (by rw [e2, h2])
theorem first_empty {mask k : Nat} (hk : mask + 1 = 2 ^ k) (h : Int) (P : Nat → Prop) [DecidablePred P] {e : Nat} (he : e ≤ mask) (hP : ¬ P e) :
    ∃ N b, N ≤ ss mask h b ∧ b < mask + 14 ∧ ¬ P (pn mask h N).j ∧ ∀ m, m < N → P (pn mask h m).j := by
  obtain ⟨b, hb, hbe⟩ := reach hk h he
  have h0 : ¬ P (pn mask h (ss mask h b)).j := by rw [pn_ss]; show ¬ P (bl mask h b).1; rw [hbe]; exact hP
  have least : ∀ n, ¬ P (pn mask h n).j → ∃ N, N ≤ n ∧ ¬ P (pn mask h N).j ∧ ∀ m, m < N → P (pn mask h m).j := by
    intro n
    induction n using Nat.strongRecOn with
    | _ n ih =>
      intro hn
      by_cases c : ∃ m, m < n ∧ ¬ P (pn mask h m).j
      · obtain ⟨m, hm, hp⟩ := c
        obtain ⟨N, h1, h2⟩ := ih m hm hp
        exact ⟨N, by omega, h2⟩
      · exact ⟨n, Nat.le_refl _, hn, fun m hm => Decidable.byContradiction fun z => c ⟨m, hm, z⟩⟩
  obtain ⟨N, h1, h2, h3⟩ := least _ h0
  exact ⟨N, b, h1, hb, h2, h3⟩
open Classical in
theorem TOk.empty {t : SetTable} {es : Array (Int × Value)} (k : TOk t es) (h : Int) : ∃ N, N < 10 * (t.mask + 14) ∧ ¬ In t (pn t.mask h N).j ∧ ∀ m, m < N → In t (pn t.mask h m).j := by
  obtain ⟨n, h1, h2⟩ := k.pw
  have ex : ∃ e, e ≤ t.mask ∧ ¬ In t e := by
    refine Classical.byContradiction fun hc => ?_
    have all : ∀ e, e ≤ t.mask → In t e := fun e he => Classical.byContradiction fun z => hc ⟨e, he, z⟩
    refine pigeon t.mask (fun j => if hj : In t j then some hj.choose else none) (fun j hj => ?_) fun j j' i _ _ e1 e2 => ?_
    · have hi := all j (by omega)
      refine ⟨hi.choose, dif_pos hi, ?_⟩
      have := (get_getD hi.choose_spec 0).1
      have := k.sz; have := k.ro
      omega
    · split at e1
      · rename_i hj
        split at e2
        · rename_i hj'
          have q1 := hj.choose_spec
          have q2 := hj'.choose_spec
          rw [Option.some.inj e1] at q1
          rw [Option.some.inj e2] at q2
          rw [q1] at q2
          exact Option.some.inj q2
        · cases e2
      · cases e1
  obtain ⟨e, he, hne⟩ := ex
  obtain ⟨N, b, h3, h4, h5, h6⟩ := first_empty h1 h (In t) he hne
  have := ss_le t.mask h b
  exact ⟨N, by omega, h5, h6⟩
end TS
namespace TS
open PySem PySem.SetTable
noncomputable def Occ (ow : Array (Option Nat)) (j : Nat) : Prop := ∃ i, ow[j]? = some (some i)
instance (ow : Array (Option Nat)) : DecidablePred (Occ ow) := fun j => match h : ow[j]? with
  | some (some i) => .isTrue ⟨i, h⟩
  | some none => .isFalse fun hx1_ => by obtain ⟨i, z⟩ := hx1_; rw [h] at z; cases z
  | none => .isFalse fun hx2_ => by obtain ⟨i, z⟩ := hx2_; rw [h] at z; cases z
theorem occ_getD {ow : Array (Option Nat)} {j : Nat} (hj : j < ow.size) : (ow.getD j (some 0)).isNone = !decide (Occ ow j) := by
  have e : ow[j]? = some ow[j] := Array.getElem?_eq_getElem hj
  have e2 : ow.getD j (some 0) = ow[j] := by simp [Array.getD, hj]
  rw [e2]
  cases c : ow[j] with
  | none =>
    rw [decide_eq_false (fun hx3_ => by obtain ⟨i, z⟩ := hx3_; rw [e, c] at z; cases z)]; rfl
  | some i =>
    rw [decide_eq_true (show Occ ow j from ⟨i, by rw [e, c]⟩)]; rfl
theorem find_range {P : Nat → Bool} : ∀ (n d : Nat), d < n → P d = true → (∀ k, k < d → P k = false) → (List.range n).find? P = some d := by
  intro n d hd hp hb
  rw [List.find?_range_eq_some]
  exact ⟨hp, by simpa using hd, fun j hj => by simpa using hb j hj⟩
theorem free_ok {mask : Nat} {h : Int} {ow : Array (Option Nat)} (hs : ow.size = mask + 1) {N b : Nat} (hN : ¬ Occ ow (pn mask h N).j) (hl : ∀ m, m < N → Occ ow (pn mask h m).j) (hb : N ≤ ss mask h b) :
    ∀ (fuel n : Nat), n ≤ b → b - n < fuel → ss mask h n ≤ N → layClean.free mask ow fuel (bl mask h n).1 (bl mask h n).2 = some (pn mask h N).j := by
  intro fuel
  induction fuel with
  | zero => intro n h1 h2; omega
  | succ fuel ih =>
    intro n h1 h2 h3
    have hil := bl_lt mask h n
    have hre : (bl mask h n).1 ≤ runEnd mask (bl mask h n).1 := by unfold runEnd; split <;> omega
    have hrm := runEnd_in hil
    have at' : ∀ d, d ≤ runEnd mask (bl mask h n).1 - (bl mask h n).1 → (pn mask h (ss mask h n + d)).j = (bl mask h n).1 + d := fun d hd => by rw [pn_in (pn_ss mask h n) d hd]
    unfold layClean.free
    by_cases c : N - ss mask h n ≤ runEnd mask (bl mask h n).1 - (bl mask h n).1
    · have e := at' _ c
      rw [show ss mask h n + (N - ss mask h n) = N by omega] at e
      rw [find_range _ (N - ss mask h n) (by omega) (by rw [occ_getD (by omega), ← e, decide_eq_false hN]; rfl) fun k hk => by
        rw [occ_getD (by omega), ← at' k (by omega), decide_eq_true (hl _ (by omega))]; rfl]
      rw [e]
    · have hn : (List.range (runEnd mask (bl mask h n).1 + 1 - (bl mask h n).1)).find? (fun k => (ow.getD ((bl mask h n).1 + k) (some 0)).isNone) = none := by
        rw [List.find?_eq_none]
        intro k hk
        have hk := List.mem_range.mp hk
        rw [occ_getD (by omega), ← at' k (by omega), decide_eq_true (hl _ (by omega))]
        simp
      rw [hn]
      show layClean.free mask ow fuel (bl mask h (n + 1)).1 (bl mask h (n + 1)).2 = _
      have hnb : n ≠ b := fun e => by subst e; omega
      exact ih (n + 1) (by omega) (by omega) (by show ss mask h n + _ + 1 ≤ N; omega)
structure Own (mask : Nat) (ow : Array (Option Nat)) (hs : List Int) : Prop where
  size : ow.size = mask + 1
  pr : ∀ (j i : Nat), ow[j]? = some (some i) → ∃ h, hs[i]? = some h ∧ ∃ n, (pn mask h n).j = j ∧ ∀ m, m < n → Occ ow (pn mask h m).j
  all : ∀ i, i < hs.length → ∃ j : Nat, ow[j]? = some (some i)
  inj : ∀ (j j' i : Nat), ow[j]? = some (some i) → ow[j']? = some (some i) → j = j'
theorem set_get {ow : Array (Option Nat)} {j i : Nat} {x : Option Nat} (hj : j < ow.size) : (ow.setIfInBounds j x)[i]? = if i = j then some x else ow[i]? := by
  rw [Array.getElem?_setIfInBounds]
  by_cases c : j = i
  · subst c; simp [hj]
  · rw [if_neg c, if_neg (fun e => c e.symm)]
theorem Own.step {mask k : Nat} (hk : mask + 1 = 2 ^ k) {ow : Array (Option Nat)} {hs : List Int} (o : Own mask ow hs) (h : Int) (hl : hs.length < mask + 1) :
    ∃ j, layClean.free mask ow (turns mask) (bits h % (mask + 1)) (bits h) = some j ∧ Own mask (ow.setIfInBounds j (some hs.length)) (hs ++ [h]) := by
  have ex : ∃ e, e ≤ mask ∧ ¬ Occ ow e := by
    refine Decidable.byContradiction fun hc => ?_
    have all : ∀ e, e ≤ mask → Occ ow e := fun e he => Decidable.byContradiction fun z => hc ⟨e, he, z⟩
    refine pigeon mask (fun j => (ow[j]?).join) (fun j hj => ?_) fun j j' i l1 l2 e1 e2 => ?_
    · obtain ⟨i, hi⟩ := all j (by omega)
      obtain ⟨h', e1, _⟩ := o.pr j i hi
      have := (List.getElem?_eq_some_iff.mp e1).1
      exact ⟨i, by rw [hi]; rfl, by omega⟩
    · obtain ⟨i1, q1⟩ := all j (by omega)
      obtain ⟨i2, q2⟩ := all j' (by omega)
      rw [q1] at e1; rw [q2] at e2
      cases e1; cases e2
      exact o.inj j j' i q1 q2
  obtain ⟨e, he, hne⟩ := ex
  obtain ⟨N, b, h3, h4, h5, h6⟩ := first_empty hk h (Occ ow) he hne
  have hj := (pn_le mask h N).1
  have hjs : (pn mask h N).j < ow.size := by rw [o.size]; omega
  refine ⟨(pn mask h N).j, free_ok o.size h5 h6 h3 _ 0 (Nat.zero_le _) (by unfold turns; omega) (Nat.zero_le _), ?_⟩
  have up : ∀ x, Occ ow x → Occ (ow.setIfInBounds (pn mask h N).j (some hs.length)) x := fun x hx4_ => by
    obtain ⟨i, hi⟩ := hx4_
    by_cases c : x = (pn mask h N).j
    · exact ⟨hs.length, by rw [set_get hjs, if_pos c]⟩
    · exact ⟨i, by rw [set_get hjs, if_neg c]; exact hi⟩
  refine ⟨by simp [o.size], fun j i hi => ?_, fun i hi => ?_, fun j j' i q1 q2 => ?_⟩
  · rw [set_get hjs] at hi
    split at hi
    · rename_i c
      cases hi
      exact ⟨h, by simp, N, c.symm, fun m hm => up _ (h6 m hm)⟩
    · obtain ⟨h', e1, n, e2, e3⟩ := o.pr j i hi
      refine ⟨h', ?_, n, e2, fun m hm => up _ (e3 m hm)⟩
      rw [List.getElem?_append_left (List.getElem?_eq_some_iff.mp e1).1]; exact e1
  · rw [List.length_append, List.length_singleton] at hi
    by_cases c : i = hs.length
    · exact ⟨(pn mask h N).j, by rw [set_get hjs, if_pos rfl, c]⟩
    · obtain ⟨j, hj⟩ := o.all i (by omega)
      refine ⟨j, ?_⟩
      rw [set_get hjs, if_neg (fun (e : j = (pn mask h N).j) => h5 (by rw [← e]; exact ⟨i, hj⟩))]; exact hj
  · rw [set_get hjs] at q1 q2
    have lt : ∀ x, ow[x]? = some (some i) → i < hs.length := fun x hx => let ⟨_, e, _⟩ := o.pr x i hx; (List.getElem?_eq_some_iff.mp e).1
    split at q1
    · rename_i c1
      split at q2
      · rename_i c2; rw [c1, c2]
      · cases q1; have := lt _ q2; omega
    · split at q2
      · cases q2; have := lt _ q1; omega
      · exact o.inj j j' i q1 q2
end TS
namespace TS
open PySem PySem.SetTable
end TS
namespace TS
open PySem PySem.SetTable
noncomputable def hashI (ks : List Int) : Int := reduceHash (Builtin.Tuple.tupleHashOf (ks.map hashInt))
section
variable {prog : Program} {w : World} {A : Around} {E : Value → Shared → Prop} {s : Shared}
theorem items_int {ks : List Int} {vs : List Value} (h : ItemsAre (intKind prog w) ks vs) : ∀ v ∈ vs, ∃ i t, v = .int i t := by
  induction h with
  | nil => intro v hv; simp at hv
  | cons h1 _ ih =>
    intro v hv
    rcases List.mem_cons.mp hv with rfl | hv
    · obtain ⟨t, rfl⟩ := Value.isInt_shape h1
      exact ⟨_, t, rfl⟩
    · exact ih v hv
structure Els (es : Array (Int × Value)) (xs : List (List Int × Addr)) : Prop where
  sub : ∀ e ∈ es.toList, ∃ p ∈ xs, e = (hashI p.1, .ref p.2)
  sup : ∀ p ∈ xs, (hashI p.1, Value.ref p.2) ∈ es.toList
  len : es.size = xs.length
end
end TS
namespace TS
open PySem PySem.SetTable
noncomputable def TObj (o : Obj) (xs : List (List Int × Addr)) : Prop := o.ExactSet ∧ ∃ es ep t, o.data = .set es ep t ∧ TOk t es ∧ Els es xs
noncomputable def TSet (a : Addr) (xs : List (List Int × Addr)) (h : Heap) : Prop := ∃ o, h.get? a = some o ∧ TObj o xs
section
variable {prog : Program} {w : World} {A : Around} {E : Value → Shared → Prop} {s : Shared} {a x : Addr} {k : List Int} {xs : List (List Int × Addr)}
theorem TSet.typeIs (h : TSet a xs s.heap) : s.TypeIs (.ref a) "set" := let ⟨o, ho, hc, _⟩ := h; ⟨o, ho, hc.1⟩
end
end TS
namespace BF
noncomputable def lx : List Nat → List Nat → Prop
  | a :: u, b :: v => a < b ∨ (a = b ∧ lx u v)
  | _, _ => False
noncomputable def sl (u v : List Nat) : Prop := u.length < v.length ∨ (u.length = v.length ∧ lx u v)
noncomputable def le (u v : List Nat) : Prop := sl u v ∨ u = v
theorem lx_trans : ∀ {u v w}, lx u v → lx v w → lx u w
  | [], _, _, h, _ => h.elim
  | _ :: _, [], _, h, _ => h.elim
  | _ :: _, _ :: _, [], _, h => h.elim
  | a :: u, b :: v, c :: w, h, g => by
    rcases h with h | ⟨h, h'⟩ <;> rcases g with g | ⟨g, g'⟩
    · exact .inl (by omega)
    · exact .inl (by omega)
    · exact .inl (by omega)
    · exact .inr ⟨by omega, lx_trans h' g'⟩
theorem sl_trans {u v w : List Nat} (h : sl u v) (g : sl v w) : sl u w := by
  rcases h with h | ⟨h, h'⟩ <;> rcases g with g | ⟨g, g'⟩
  · exact .inl (by omega)
  · exact .inl (by omega)
  · exact .inl (by omega)
  · exact .inr ⟨by omega, lx_trans h' g'⟩
theorem sl_le {u v w : List Nat} (h : sl u v) (g : le v w) : sl u w := by
  rcases g with g | rfl
  · exact sl_trans h g
  · exact h
theorem le_trans {u v w : List Nat} (h : le u v) (g : le v w) : le u w := by
  rcases h with h | rfl
  · exact .inl (sl_le h g)
  · exact g
theorem lx_app : ∀ {u v : List Nat} (c d : Nat), u.length = v.length → lx u v → lx (u ++ [c]) (v ++ [d])
  | [], _, _, _, _, h => h.elim
  | _ :: _, [], _, _, _, h => h.elim
  | a :: u, b :: v, c, d, hl, h => by
    rcases h with h | ⟨h, h'⟩
    · exact .inl h
    · exact .inr ⟨h, lx_app c d (by simpa using hl) h'⟩
theorem sl_app {u v : List Nat} (c d : Nat) (h : sl u v) : sl (u ++ [c]) (v ++ [d]) := by
  rcases h with h | ⟨h, h'⟩
  · exact .inl (by simpa using h)
  · exact .inr ⟨by simpa using h, lx_app c d h h'⟩
theorem lx_last : ∀ (u : List Nat) {c d : Nat}, c < d → lx (u ++ [c]) (u ++ [d])
  | [], _, _, h => .inl h
  | _ :: u, _, _, h => .inr ⟨rfl, lx_last u h⟩
theorem sl_last (u : List Nat) {c d : Nat} (h : c < d) : sl (u ++ [c]) (u ++ [d]) := .inr ⟨by simp, lx_last u h⟩
theorem le_app {u v : List Nat} (a : Nat) (h : le u v) : le (u ++ [a]) (v ++ [a]) := by
  rcases h with h | rfl
  · exact .inl (sl_app a a h)
  · exact .inr rfl
noncomputable abbrev P := Nat × Nat
section
variable (A : Nat) (step : P → Nat → Option P) (fail : P → Nat → Bool)
noncomputable def walk : P → List Nat → Option P
  | p, [] => some p
  | p, a :: w => (step p a).bind fun q => walk q w
noncomputable def Fails (p : P) (w : List Nat) : Prop := ∃ u b q, w = u ++ [b] ∧ b < A ∧ (∀ a ∈ u, a < A) ∧ walk step p u = some q ∧ fail q b = true
noncomputable def Least (p : P) (w : List Nat) : Prop := Fails A step fail p w ∧ ∀ v, Fails A step fail p v → ¬ sl v w
end
section
variable {A : Nat} {step : P → Nat → Option P} {fail : P → Nat → Bool}
theorem walk_snoc : ∀ (p : P) (u : List Nat) (a : Nat), walk step p (u ++ [a]) = (walk step p u).bind fun q => step q a
  | p, [], a => by show (step p a).bind _ = step p a; cases step p a <;> rfl
  | p, b :: u, a => by
    show (step p b).bind _ = ((step p b).bind _).bind _
    cases step p b with
    | none => rfl
    | some q => exact walk_snoc q u a
structure Bf (A : Nat) (step : P → Nat → Option P) (fail : P → Nat → Bool) (p0 : P) (ps : List P) (ws : List (List Nat)) (i c : Nat) : Prop where
  len : ws.length = ps.length
  z : ps[0]? = some p0 ∧ ws[0]? = some []
  wk : ∀ (k : Nat) q w, ps[k]? = some q → ws[k]? = some w → walk step p0 w = some q ∧ ∀ a ∈ w, a < A
  inc : ∀ (k l : Nat) u v, k < l → ws[k]? = some u → ws[l]? = some v → sl u v
  cl : ∀ (k : Nat) q w a q', ((k < i ∧ a < A) ∨ (k = i ∧ a < c)) → ps[k]? = some q → ws[k]? = some w → step q a = some q' → ∃ (l : Nat) (u : List Nat), ps[l]? = some q' ∧ ws[l]? = some u ∧ le u (w ++ [a])
  nf : ∀ (k : Nat) q a, ((k < i ∧ a < A) ∨ (k = i ∧ a < c)) → ps[k]? = some q → fail q a = false
  top : ∀ (k : Nat) w u, ws[k]? = some w → ws[i]? = some u → sl w (u ++ [c])
  nd : ps.Nodup
theorem Bf.start (p0 : P) : Bf A step fail p0 [p0] [[]] 0 0 := by
  have one : ∀ (k : Nat) w, ([[]] : List (List Nat))[k]? = some w → k = 0 ∧ w = [] := fun k w h => by
    cases k with
    | zero => exact ⟨rfl, by simpa using h.symm⟩
    | succ k => simp at h
  refine ⟨rfl, ⟨rfl, rfl⟩, fun k q w h1 h2 => ?_, fun k l u v hkl h1 h2 => ?_, fun k q w a q' h => ?_, fun k q a h => ?_, fun k w u h1 h2 => ?_, by simp⟩
  · obtain ⟨rfl, rfl⟩ := one k w h2
    have : p0 = q := by simpa using h1
    subst this
    exact ⟨rfl, fun a ha => by simp at ha⟩
  · have := (one k u h1).1; have := (one l v h2).1; omega
  · omega
  · omega
  · obtain ⟨rfl, rfl⟩ := one k w h1
    obtain ⟨_, rfl⟩ := one 0 u h2
    exact .inl (by simp)
section
variable {p0 q q' : P} {ps : List P} {ws : List (List Nat)} {w : List Nat} {i c : Nat}
theorem get_snoc {α : Type} {l : List α} {x y : α} {k : Nat} (h : (l ++ [x])[k]? = some y) : l[k]? = some y ∨ (k = l.length ∧ y = x) := by
  rcases Nat.lt_trichotomy k l.length with hk | hk | hk
  · rw [List.getElem?_append_left hk] at h; exact .inl h
  · subst hk; rw [List.getElem?_append_right (Nat.le_refl _)] at h; exact .inr ⟨rfl, by simpa using h.symm⟩
  · rw [List.getElem?_eq_none (by simp; omega)] at h; cases h
theorem get_left {α : Type} {l : List α} {x y : α} {k : Nat} (h : l[k]? = some y) : (l ++ [x])[k]? = some y := by
  rw [List.getElem?_append_left (List.getElem?_eq_some_iff.mp h).1]; exact h
theorem Bf.push (b : Bf A step fail p0 ps ws i c) (hc : c < A) (hq : ps[i]? = some q) (hw : ws[i]? = some w) (hf : fail q c = false) (hs : step q c = some q') (hn : q' ∉ ps) : Bf A step fail p0 (ps ++ [q']) (ws ++ [w ++ [c]]) i (c + 1) := by
  have hiL := (List.getElem?_eq_some_iff.mp hq).1
  refine ⟨by simp [b.len], ⟨get_left b.z.1, get_left b.z.2⟩, fun k r u h1 h2 => ?_, fun k l u v hkl h1 h2 => ?_, fun k r u a r' h h1 h2 h3 => ?_, fun k r a h h1 => ?_, fun k u v h1 h2 => ?_, ?_⟩
  · rcases get_snoc h1 with g1 | ⟨e1, rfl⟩ <;> rcases get_snoc h2 with g2 | ⟨e2, rfl⟩
    · exact b.wk k r u g1 g2
    · have := (List.getElem?_eq_some_iff.mp g1).1; have := b.len; omega
    · have := (List.getElem?_eq_some_iff.mp g2).1; have := b.len; omega
    · obtain ⟨h1, h2⟩ := b.wk i q w hq hw
      refine ⟨by rw [walk_snoc, h1]; exact hs, fun a ha => ?_⟩
      rcases List.mem_append.mp ha with ha | ha
      · exact h2 a ha
      · have : a = c := by simpa using ha
        omega
  · rcases get_snoc h1 with g1 | ⟨e1, rfl⟩ <;> rcases get_snoc h2 with g2 | ⟨e2, rfl⟩
    · exact b.inc k l u v hkl g1 g2
    · exact b.top k u w g1 hw
    · have := (List.getElem?_eq_some_iff.mp g2).1; omega
    · omega
  · have hk : k < ps.length := by omega
    have g1 : ps[k]? = some r := by rw [List.getElem?_append_left hk] at h1; exact h1
    have g2 : ws[k]? = some u := by rw [List.getElem?_append_left (by rw [b.len]; exact hk)] at h2; exact h2
    by_cases hkc : k = i ∧ a = c
    · obtain ⟨rfl, rfl⟩ := hkc
      rw [hq] at g1; cases g1
      rw [hw] at g2; cases g2
      rw [hs] at h3; cases h3
      exact ⟨ps.length, w ++ [a], by rw [List.getElem?_append_right (Nat.le_refl _)]; simp, by rw [← b.len, List.getElem?_append_right (Nat.le_refl _)]; simp, .inr rfl⟩
    · obtain ⟨l, v, e1, e2, e3⟩ := b.cl k r u a r' (by omega) g1 g2 h3
      exact ⟨l, v, get_left e1, get_left e2, e3⟩
  · have hk : k < ps.length := by omega
    have g1 : ps[k]? = some r := by rw [List.getElem?_append_left hk] at h1; exact h1
    by_cases hkc : k = i ∧ a = c
    · obtain ⟨rfl, rfl⟩ := hkc
      rw [hq] at g1; cases g1
      exact hf
    · exact b.nf k r a (by omega) g1
  · have g2 : ws[i]? = some v := by rw [List.getElem?_append_left (by rw [b.len]; exact hiL)] at h2; exact h2
    rw [hw] at g2; cases g2
    rcases get_snoc h1 with g1 | ⟨e1, rfl⟩
    · exact sl_trans (b.top k u w g1 hw) (sl_last w (Nat.lt_succ_self c))
    · exact sl_last w (Nat.lt_succ_self c)
  · rw [List.nodup_append]
    exact ⟨b.nd, by simp, fun x hx y hy => by have : y = q' := by simpa using hy
                                              subst this; exact fun e => hn (e ▸ hx)⟩
theorem Bf.next (b : Bf A step fail p0 ps ws i A) : Bf A step fail p0 ps ws (i + 1) 0 := by
  refine ⟨b.len, b.z, b.wk, b.inc, fun k r u a r' h h1 h2 h3 => ?_, fun k r a h h1 => ?_, fun k u v h1 h2 => ?_, b.nd⟩
  · exact b.cl k r u a r' (by omega) h1 h2 h3
  · exact b.nf k r a (by omega) h1
  · have hl := (List.getElem?_eq_some_iff.mp h2).1
    have hi : ws[i]? = some ws[i] := List.getElem?_eq_getElem (by omega)
    exact sl_trans (b.top k u _ h1 hi) (sl_app A 0 (b.inc i (i + 1) _ v (by omega) hi h2))
theorem Bf.key (b : Bf A step fail p0 ps ws i c) (u : List Nat) (hu : ∀ a ∈ u, a < A) : ∀ q, walk step p0 u = some q → ∃ u1 u2 k w' q1, u = u1 ++ u2 ∧ ps[k]? = some q1 ∧ ws[k]? = some w' ∧ walk step p0 u1 = some q1 ∧ le w' u1 ∧ ((u2 = [] ∧ q1 = q) ∨ i ≤ k) := by
  have gen : ∀ (n : Nat) (u : List Nat), u.length = n → (∀ a ∈ u, a < A) → ∀ q, walk step p0 u = some q → ∃ u1 u2 k w' q1, u = u1 ++ u2 ∧ ps[k]? = some q1 ∧ ws[k]? = some w' ∧ walk step p0 u1 = some q1 ∧ le w' u1 ∧ ((u2 = [] ∧ q1 = q) ∨ i ≤ k) := by
    intro n
    induction n with
    | zero =>
      intro u hl hu q hq
      have : u = [] := List.length_eq_zero_iff.mp hl
      subst this
      cases hq
      exact ⟨[], [], 0, [], p0, rfl, b.z.1, b.z.2, rfl, .inr rfl, .inl ⟨rfl, rfl⟩⟩
    | succ n ih =>
      intro u hl hu q hq
      obtain ⟨u', a, rfl⟩ : ∃ u' a, u = u' ++ [a] := by
        have hne : u ≠ [] := fun e => by subst e; simp at hl
        exact ⟨u.dropLast, u.getLast hne, (List.dropLast_concat_getLast hne).symm⟩
      rw [walk_snoc] at hq
      cases hq' : walk step p0 u' with
      | none => rw [hq'] at hq; cases hq
      | some q1 =>
        rw [hq'] at hq
        have hq : step q1 a = some q := hq
        obtain ⟨u1, u2, k, w', q2, e0, e1, e2, e3, e4, e5⟩ := ih u' (by simpa using hl) (fun x hx => hu x (List.mem_append_left _ hx)) q1 hq'
        by_cases hk : i ≤ k
        · exact ⟨u1, u2 ++ [a], k, w', q2, by rw [e0, List.append_assoc], e1, e2, e3, e4, .inr hk⟩
        · rcases e5 with ⟨rfl, rfl⟩ | e5
          · rw [List.append_nil] at e0
            subst e0
            obtain ⟨l, v, g1, g2, g3⟩ := b.cl k q2 w' a q (.inl ⟨by omega, hu a (by simp)⟩) e1 e2 hq
            exact ⟨u' ++ [a], [], l, v, q, by simp, g1, g2, by rw [walk_snoc, hq']; exact hq, le_trans g3 (le_app a e4), .inl ⟨rfl, rfl⟩⟩
          · exact absurd e5 hk
  exact gen u.length u rfl hu
theorem Bf.none (b : Bf A step fail p0 ps ws ps.length 0) : ∀ v, ¬ Fails A step fail p0 v := by
  rintro v ⟨u, d, r, rfl, hd, hu, hr, hfr⟩
  obtain ⟨u1, u2, k, w', q1, e0, e1, e2, e3, e4, e5⟩ := b.key u hu r hr
  have hk := (List.getElem?_eq_some_iff.mp e1).1
  rcases e5 with ⟨rfl, rfl⟩ | e5
  · have := b.nf k q1 d (.inl ⟨hk, hd⟩) e1
    rw [hfr] at this; cases this
  · omega
end
noncomputable def Fn (A : Nat) (step : P → Nat → Option P) (fail : P → Nat → Bool) (n : Nat) (p : P) : Prop := ∃ w, Fails A step fail p w ∧ w.length = n
noncomputable def Ds (A : Nat) (step : P → Nat → Option P) (fail : P → Nat → Bool) (p : P) (n : Nat) : Prop := Fn A step fail n p ∧ ∀ m, m < n → ¬ Fn A step fail m p
theorem fails_cons {p q : P} {a : Nat} {w : List Nat} (ha : a < A) (hs : step p a = some q) (h : Fails A step fail q w) : Fails A step fail p (a :: w) := by
  obtain ⟨u, b, r, rfl, h1, h2, h3, h4⟩ := h
  refine ⟨a :: u, b, r, rfl, h1, fun x hx => ?_, by show (step p a).bind _ = _; rw [hs]; exact h3, h4⟩
  rcases List.mem_cons.mp hx with rfl | hx
  · exact ha
  · exact h2 x hx
theorem fails_inv {p : P} {a : Nat} {w : List Nat} (h : Fails A step fail p (a :: w)) : (w = [] ∧ a < A ∧ fail p a = true) ∨ ∃ q, a < A ∧ step p a = some q ∧ Fails A step fail q w := by
  obtain ⟨u, b, r, e, h1, h2, h3, h4⟩ := h
  cases u with
  | nil =>
    cases e
    cases h3
    exact .inl ⟨rfl, h1, h4⟩
  | cons x u =>
    cases e
    cases hs : step p a with
    | none => rw [show walk step p (a :: u) = (step p a).bind _ from rfl, hs] at h3; cases h3
    | some q =>
      rw [show walk step p (a :: u) = (step p a).bind _ from rfl, hs] at h3
      exact .inr ⟨q, h2 a (by simp), rfl, u, b, r, rfl, h1, fun x hx => h2 x (by simp [hx]), h3, h4⟩
theorem fails_ne {p : P} : ¬ Fails A step fail p [] := by
  rintro ⟨u, b, r, e, _⟩
  simp at e
theorem Fn.one {p : P} : Fn A step fail 1 p ↔ ∃ a, a < A ∧ fail p a = true := by
  constructor
  · rintro ⟨w, h, hl⟩
    cases w with
    | nil => simp at hl
    | cons a w =>
      have : w = [] := List.length_eq_zero_iff.mp (by simpa using hl)
      subst this
      rcases fails_inv h with ⟨_, h1, h2⟩ | ⟨q, _, _, h3⟩
      · exact ⟨a, h1, h2⟩
      · exact absurd h3 fails_ne
  · rintro ⟨a, h1, h2⟩
    exact ⟨[a], ⟨[], a, p, rfl, h1, fun x hx => by simp at hx, rfl, h2⟩, rfl⟩
theorem Fn.zero {p : P} : ¬ Fn A step fail 0 p := by
  rintro ⟨w, h, hl⟩
  have : w = [] := List.length_eq_zero_iff.mp hl
  subst this
  exact fails_ne h
theorem Fn.succ {p : P} {n : Nat} : Fn A step fail (n + 2) p ↔ ∃ a q, a < A ∧ step p a = some q ∧ Fn A step fail (n + 1) q := by
  constructor
  · rintro ⟨w, h, hl⟩
    cases w with
    | nil => simp at hl
    | cons a w =>
      rcases fails_inv h with ⟨e, _⟩ | ⟨q, h1, h2, h3⟩
      · subst e; simp at hl
      · exact ⟨a, q, h1, h2, w, h3, by simpa using hl⟩
  · rintro ⟨a, q, h1, h2, w, h3, hl⟩
    exact ⟨a :: w, fails_cons h1 h2 h3, by simp [hl]⟩
theorem Ds.one {p : P} : Ds A step fail p 1 ↔ ∃ a, a < A ∧ fail p a = true := by
  constructor
  · exact fun h => Fn.one.mp h.1
  · refine fun h => ⟨Fn.one.mpr h, fun m hm => ?_⟩
    have : m = 0 := by omega
    subst this; exact Fn.zero
theorem least_nat {Q : Nat → Prop} {n : Nat} (h : Q n) : ∃ m, m ≤ n ∧ Q m ∧ ∀ k, k < m → ¬ Q k := by
  induction n using Nat.strongRecOn with
  | _ n ih =>
    by_cases c : ∃ k, k < n ∧ Q k
    · obtain ⟨k, hk, q⟩ := c
      obtain ⟨m, h1, h2⟩ := ih k hk q
      exact ⟨m, by omega, h2⟩
    · exact ⟨n, Nat.le_refl _, h, fun k hk q => c ⟨k, hk, q⟩⟩
theorem Ds.of {p : P} {n : Nat} (h : Fn A step fail n p) : ∃ m, m ≤ n ∧ Ds A step fail p m := by
  obtain ⟨m, h1, h2, h3⟩ := least_nat (Q := fun n => Fn A step fail n p) h
  exact ⟨m, h1, h2, h3⟩
theorem Least.len {p : P} {w : List Nat} {n : Nat} (h : Least A step fail p w) (d : Ds A step fail p n) : w.length = n := by
  rcases Nat.lt_trichotomy w.length n with c | c | c
  · exact absurd ⟨w, h.1, rfl⟩ (d.2 _ c)
  · exact c
  · obtain ⟨v, hv, hl⟩ := d.1
    exact absurd (.inl (by omega)) (h.2 v hv)
theorem Least.one {p : P} {a : Nat} (ha : a < A) (hf : fail p a = true) (hb : ∀ b, b < a → fail p b = false) : Least A step fail p [a] := by
  refine ⟨⟨[], a, p, rfl, ha, fun x hx => by simp at hx, rfl, hf⟩, fun v hv hs => ?_⟩
  cases v with
  | nil => exact fails_ne hv
  | cons b v =>
    rcases hs with h | ⟨h, h'⟩
    · simp at h
    · have : v = [] := List.length_eq_zero_iff.mp (by simpa using h)
      subst this
      rcases fails_inv hv with ⟨_, _, h2⟩ | ⟨q, _, _, h3⟩
      · rcases h' with h' | ⟨_, h'⟩
        · rw [hb b h'] at h2; cases h2
        · exact h'
      · exact fails_ne h3
theorem Least.cons {p q : P} {a n : Nat} {w : List Nat} (d : Ds A step fail p (n + 1)) (hn : 1 ≤ n) (ha : a < A) (hs : step p a = some q) (dq : Ds A step fail q n) (hb : ∀ b q', b < a → step p b = some q' → ¬ Ds A step fail q' n) (h : Least A step fail q w) : Least A step fail p (a :: w) := by
  have hl := h.len dq
  refine ⟨fails_cons ha hs h.1, fun v hv hsl => ?_⟩
  have hvl : v.length = n + 1 := by
    rcases hsl with h' | ⟨h', _⟩
    · exact absurd ⟨v, hv, rfl⟩ (d.2 v.length (by rw [List.length_cons] at h'; omega))
    · rw [List.length_cons] at h'; omega
  cases v with
  | nil => simp at hvl
  | cons b v =>
    rcases hsl with h' | ⟨_, h'⟩
    · rw [hvl, List.length_cons] at h'; omega
    · rcases fails_inv hv with ⟨e, _⟩ | ⟨q', h1, h2, h3⟩
      · subst e; simp at hvl; omega
      · have hvl' : v.length = n := by simpa using hvl
        have dq' : Ds A step fail q' n := ⟨⟨v, h3, hvl'⟩, fun m hm ⟨u, hu, hul⟩ => d.2 (m + 1) (by omega) ⟨b :: u, fails_cons h1 h2 hu, by simp [hul]⟩⟩
        rcases h' with h' | ⟨e, h'⟩
        · exact hb b q' h' h2 dq'
        · subst e
          rw [hs] at h2; cases h2
          exact h.2 v h3 (.inr ⟨by omega, h'⟩)
end
end BF
namespace SP
open PySem PySem.W PyProof.Rows
inductive Ok (lt : Nat → Nat → Bool) (n : Nat) {α : Type} (G : α → Prop) : KasT α → Prop where
  | ret {a : α} (h : G a) : Ok lt n G (.ret a)
  | ask {i j : Nat} {k : Bool → KasT α} (hi : i < n) (hj : j < n) (h : Ok lt n G (k (lt i j))) : Ok lt n G (.ask i j k)
theorem Ok.bind {lt : Nat → Nat → Bool} {n : Nat} {α β : Type} {G : β → Prop} {G' : α → Prop} {t : KasT α} {f : α → KasT β} (h : Ok lt n G' t) (hf : ∀ a, G' a → Ok lt n G (f a)) : Ok lt n G (t.bind f) := by
  induction h with
  | ret h => exact hf _ h
  | ask hi hj _ ih => exact .ask hi hj ih
section
variable {r : Nat → Int} {n : Nat}
noncomputable def lt (r : Nat → Int) (i j : Nat) : Bool := decide (r i < r j)
noncomputable def at' (r : Nat → Int) (p : Array Nat) (k : Nat) : Int := r (p.getD k 0)
noncomputable def Pm (n : Nat) (p : Array Nat) : Prop := p.Perm (List.range n).toArray
noncomputable def Up (r : Nat → Int) (p : Array Nat) (m : Nat) : Prop := ∀ i j, i < j → j < m → at' r p i < at' r p j
noncomputable def Inj (r : Nat → Int) (n : Nat) : Prop := ∀ i j, i < n → j < n → r i = r j → i = j
theorem Pm.size {p : Array Nat} (h : Pm n p) : p.size = n := by
  have := h.size_eq; simpa using this
theorem Pm.lt {p : Array Nat} (h : Pm n p) {k : Nat} (hk : k < n) : p.getD k 0 < n := by
  have hs := h.size
  have e : p.getD k 0 = p[k]'(by omega) := by simp [Array.getD, hs, hk]
  have := (Array.perm_iff_toList_perm.mp h).mem_iff (a := p[k]'(by omega))
  rw [e]
  have h1 : p[k]'(by omega) ∈ p.toList := by simp
  simpa using this.mp h1
theorem Pm.inj {p : Array Nat} (h : Pm n p) (hr : Inj r n) {i j : Nat} (hi : i < n) (hj : j < n) (e : at' r p i = at' r p j) : i = j := by
  have hs := h.size
  have e1 := hr _ _ (h.lt hi) (h.lt hj) e
  have ei : p.getD i 0 = p[i]'(by omega) := by simp [Array.getD, hs, hi]
  have ej : p.getD j 0 = p[j]'(by omega) := by simp [Array.getD, hs, hj]
  rw [ei, ej] at e1
  have nd : p.toList.Nodup := (Array.perm_iff_toList_perm.mp h).nodup_iff.mpr (by simpa using List.nodup_range)
  have : p.toList[i]'(by simp; omega) = p.toList[j]'(by simp; omega) := by simpa using e1
  exact (List.getElem_inj nd).mp this
theorem Pm.lt_of {p : Array Nat} (h : Pm n p) (hr : Inj r n) {i j : Nat} (hi : i < n) (hj : j < n) (hij : i ≠ j) (e : ¬ at' r p j < at' r p i) : at' r p i < at' r p j := by
  rcases Int.lt_or_eq_of_le (Int.not_lt.mp e) with z | z
  · exact z
  · exact absurd (h.inj hr hi hj z) hij
theorem at_of {p q : Array Nat} {i j : Nat} (h : p[i]? = q[j]?) : at' r p i = at' r q j := by
  unfold at'
  have : p.getD i 0 = q.getD j 0 := by simp only [Array.getD_eq_getD_getElem?, h]
  rw [this]
theorem Up.more {p : Array Nat} {m : Nat} (u : Up r p m) (hm : 0 < m) (h : at' r p (m - 1) < at' r p m) : Up r p (m + 1) := fun i j hij hj => by
  by_cases e : j = m
  · subst e
    by_cases e2 : i = j - 1
    · rw [e2]; exact h
    · exact Int.lt_trans (u i (j - 1) (by omega) (by omega)) h
  · exact u i j hij (by omega)
theorem asc {p : Array Nat} (hp : Pm n p) (hr : Inj r n) : ∀ (f m : Nat), m + f = n → 1 ≤ m → Up r p m → Ok (lt r) n (fun m' => m ≤ m' ∧ m' ≤ n ∧ Up r p m' ∧ (m' < n → at' r p m' < at' r p (m' - 1))) (kas_asc p f m)
  | 0, m, e, h1, u => .ret ⟨Nat.le_refl _, by omega, u, fun z => by omega⟩
  | f + 1, m, e, h1, u => by
    refine .ask (hp.lt (by omega)) (hp.lt (by omega)) ?_
    by_cases c : at' r p m < at' r p (m - 1)
    · rw [if_pos (show lt r _ _ = true from decide_eq_true c)]
      exact .ret ⟨Nat.le_refl _, by omega, u, fun _ => c⟩
    · rw [if_neg (show ¬ lt r _ _ = true by rw [show lt r _ _ = false from decide_eq_false c]; simp)]
      have ih := asc hp hr f (m + 1) (by omega) (by omega) (u.more (by omega) (hp.lt_of hr (by omega) (by omega) (by omega) c))
      have := Ok.bind (f := KasT.ret) ih (fun a ha => Ok.ret (G := fun m' => m ≤ m' ∧ m' ≤ n ∧ Up r p m' ∧ (m' < n → at' r p m' < at' r p (m' - 1))) ⟨by omega, ha.2.1, ha.2.2.1, ha.2.2.2⟩)
      have eb : ∀ {α : Type} (t : KasT α), t.bind KasT.ret = t := fun t => by
        induction t with
        | ret a => rfl
        | ask i j k ih => show KasT.ask i j (fun b => (k b).bind KasT.ret) = _; congr 1; funext b; exact ih b
      rw [eb] at this
      exact this
noncomputable def Dn (r : Nat → Int) (p : Array Nat) (m : Nat) : Prop := ∀ i j, i < j → j < m → at' r p j < at' r p i
theorem desc {p : Array Nat} (hp : Pm n p) (hr : Inj r n) : ∀ (f m : Nat), m + f = n → 1 ≤ m → Dn r p m → Ok (lt r) n (fun z => ∃ m', z = (p, m', 0) ∧ 1 ≤ m' ∧ m' ≤ n ∧ Dn r p m') (kas_desc f p m 0)
  | 0, m, e, h1, u => .ret ⟨m, rfl, h1, by omega, u⟩
  | f + 1, m, e, h1, u => by
    refine .ask (hp.lt (by omega)) (hp.lt (by omega)) ?_
    by_cases c : at' r p m < at' r p (m - 1)
    · rw [if_pos (show lt r _ _ = true from decide_eq_true c), if_neg (by omega)]
      refine desc hp hr f (m + 1) (by omega) (by omega) fun i j hij hj => ?_
      by_cases e : j = m
      · subst e
        by_cases e2 : i = j - 1
        · rw [e2]; exact c
        · exact Int.lt_trans c (u i (j - 1) (by omega) (by omega))
      · exact u i j hij (by omega)
    · rw [if_neg (show ¬ lt r _ _ = true by rw [show lt r _ _ = false from decide_eq_false c]; simp)]
      refine .ask (hp.lt (by omega)) (hp.lt (by omega)) ?_
      rw [if_pos (show lt r _ _ = true from decide_eq_true (hp.lt_of hr (by omega) (by omega) (by omega) c))]
      exact .ret ⟨m, rfl, h1, by omega, u⟩
theorem rev_pm {p : Array Nat} (hp : Pm n p) (i j : Nat) : Pm n (kas_rev p i j) := (mirror_perm p i j _).trans hp
theorem rev_up {p : Array Nat} (hp : Pm n p) {m : Nat} (hm : m ≤ n) (d : Dn r p m) : Up r (kas_rev p 0 m) m := fun i j hij hj => by
  have h : ∀ k, k < m → at' r (kas_rev p 0 m) k = at' r p (m - 1 - k) := fun k hk => at_of (by
    unfold kas_rev
    rw [getElem?_mirror_all (by rw [hp.size]; exact hm), if_pos ⟨Nat.zero_le _, hk⟩]
    congr 1; omega)
  rw [h i (by omega), h j hj]
  exact d _ _ (by omega) (by omega)
noncomputable def Good (r : Nat → Int) (n : Nat) (z : Nat × Array Nat) : Prop := 1 ≤ z.1 ∧ z.1 ≤ n ∧ Pm n z.2 ∧ Up r z.2 z.1
theorem count {p : Array Nat} (hp : Pm n p) (hr : Inj r n) (h1 : 1 ≤ n) : Ok (lt r) n (Good r n) (kas_count n p) := by
  unfold kas_count
  refine (asc hp hr (n - 1) 1 (by omega) (by omega) fun i j hij hj => by omega).bind fun m ⟨g1, g2, g3, g4⟩ => ?_
  by_cases e : m = n
  · rw [if_pos (by simpa using e)]
    exact .ret ⟨g1, g2, hp, g3⟩
  · rw [if_neg (by simpa using e)]
    by_cases e1 : m > 1
    · rw [if_pos e1]
      refine .ask (hp.lt (by omega)) (hp.lt (by omega)) ?_
      rw [if_pos (show lt r _ _ = true from decide_eq_true (g3 0 (m - 1) (by omega) (by omega)))]
      exact .ret ⟨g1, g2, hp, g3⟩
    · rw [if_neg e1]
      have em : m = 1 := by omega
      subst em
      unfold kas_descPart
      refine (desc hp hr (n - 2) 2 (by omega) (by omega) fun i j hij hj => ?_).bind fun z ⟨m', ez, k1, k2, k3⟩ => ?_
      · have : i = 0 ∧ j = 1 := by omega
        rw [this.1, this.2]
        exact g4 (by omega)
      · subst ez
        rw [if_neg (show ¬ (0 : Nat) > 0 by omega)]
        unfold kas_tail3
        refine (asc (rev_pm hp 0 m') hr (n - m') m' (by omega) k1 (rev_up hp k2 k3)).bind fun k ⟨q1, q2, q3, _⟩ => ?_
        exact .ret ⟨by show 1 ≤ k; omega, q2, rev_pm hp 0 m', q3⟩
theorem place {p : Array Nat} (hp : Pm n p) {k : Nat} (hk : k < n) (u : Up r p k) : ∀ (f l h : Nat), h - l ≤ f → l ≤ h → h ≤ k → (∀ i, i < l → at' r p i ≤ at' r p k) → (∀ i, h ≤ i → i < k → at' r p k < at' r p i) →
    Ok (lt r) n (fun l' => l' ≤ k ∧ (∀ i, i < l' → at' r p i ≤ at' r p k) ∧ ∀ i, l' ≤ i → i < k → at' r p k < at' r p i) (kas_place p k f l h)
  | 0, l, h, e, hlh, hh, a, b => by
    have : l = h := by omega
    subst this
    exact .ret ⟨hh, a, b⟩
  | f + 1, l, h, e, hlh, hh, a, b => by
    unfold kas_place
    by_cases c : l ≥ h
    · rw [if_pos c]
      have : l = h := by omega
      subst this
      exact .ret ⟨hh, a, b⟩
    · rw [if_neg c]
      refine .ask (hp.lt hk) (hp.lt (by omega)) ?_
      by_cases d : at' r p k < at' r p ((l + h) / 2)
      · rw [if_pos (show lt r _ _ = true from decide_eq_true d)]
        refine place hp hk u f l _ (by omega) (by omega) (by omega) a fun i hi hik => ?_
        by_cases z : i = (l + h) / 2
        · rw [z]; exact d
        · exact Int.lt_trans d (u _ _ (by omega) hik)
      · rw [if_neg (show ¬ lt r _ _ = true by rw [show lt r _ _ = false from decide_eq_false d]; simp)]
        refine place hp hk u f _ h (by omega) (by omega) hh (fun i hi => ?_) b
        by_cases z : i = (l + h) / 2
        · rw [z]; exact Int.not_lt.mp d
        · exact Int.le_trans (Int.le_of_lt (u i ((l + h) / 2) (by omega) (by omega))) (Int.not_lt.mp d)
end
end SP
namespace SP
open PySem PySem.W PyProof.Rows PySem.Calls
noncomputable abbrev Pr := Int × Int
noncomputable def IsP (h : Heap) (v : Value) (p : Pr) : Prop := ∃ a o t1 t2 n, v = .ref a ∧ h.get? a = some o ∧ o.cls = .type "tuple" ∧ o.data = .seq #[.int p.1 t1, .int p.2 t2] n
theorem IsP.kept {h h' : Heap} {v : Value} {p : Pr} (x : IsP h v p) (k : ∀ b o, o.cls = .type "tuple" → h.get? b = some o → h'.get? b = some o) : IsP h' v p :=
  let ⟨a, o, t1, t2, n, e, ho, c, d⟩ := x; ⟨a, o, t1, t2, n, e, k a o c ho, c, d⟩
inductive TR (R : Value → Pr → Prop) : List Value → List Pr → Prop where
  | nil : TR R [] []
  | cons {v : Value} {p : Pr} {vs : List Value} {ps : List Pr} : R v p → TR R vs ps → TR R (v :: vs) (p :: ps)
noncomputable abbrev Tp (h : Heap) := TR (IsP h)
theorem TR.length {R : Value → Pr → Prop} {vs : List Value} {ps : List Pr} (t : TR R vs ps) : vs.length = ps.length := by
  induction t with
  | nil => rfl
  | cons _ _ ih => simp [ih]
theorem TR.imp {R R' : Value → Pr → Prop} {vs : List Value} {ps : List Pr} (t : TR R vs ps) (k : ∀ v p, R v p → R' v p) : TR R' vs ps := by
  induction t with
  | nil => exact .nil
  | cons x _ ih => exact .cons (k _ _ x) ih
theorem TR.get {R : Value → Pr → Prop} {vs : List Value} {ps : List Pr} (t : TR R vs ps) : ∀ {i : Nat}, i < ps.length → R (vs.getD i .none) (ps.getD i (0, 0)) := by
  induction t with
  | nil => intro i hi; simp at hi
  | cons x _ ih =>
    intro i hi
    cases i with
    | zero => simpa using x
    | succ j => simpa using ih (i := j) (by simpa using hi)
theorem tups {h : Heap} {vs : List Value} {ps : List Pr} (t : Tp h vs ps) : ∃ fs : List Value, KatTups h vs fs ∧ fs.length = ps.length ∧ ∀ v ∈ fs, ∃ i k, v = .int i k := by
  induction t with
  | nil => exact ⟨[], .nil, rfl, fun v hv => by simp at hv⟩
  | @cons v p vs ps x _ ih =>
    obtain ⟨fs, h1, h2, h3⟩ := ih
    obtain ⟨a, o, t1, t2, n, rfl, ho, c, d⟩ := x
    refine ⟨.int p.1 t1 :: fs, KatTups.cons ho c d rfl h1, by simp [h2], fun v hv => ?_⟩
    rcases List.mem_cons.mp hv with e | hv
    · exact ⟨_, _, e⟩
    · exact h3 v hv
section
variable {prog : Program} {w : World} {A : Around} {E : Value → Shared → Prop} {s : Shared}
end
section
variable {prog : Program} {w : World} {A : Around} {E : Value → Shared → Prop} {s : Shared}
end
end SP
namespace L2
open PySem PySem.Spec PyProof.Rows
noncomputable abbrev Key := Sum Int Str
noncomputable def keyIs : Key → Value → Bool
  | .inl k, v => Value.isInt k v
  | .inr x, v => Value.isStrOf x v
noncomputable def keyH (w : World) : Key → Int
  | .inl k => hashInt k
  | .inr x => hashStr w x
theorem keyIs_shape : ∀ {k : Key} {v : Value}, keyIs k v = true → (∃ i t, k = Sum.inl i ∧ v = Value.int i t) ∨ (∃ x t, k = Sum.inr x ∧ v = Value.str x t)
  | .inl i, v, h => by
    obtain ⟨t, e⟩ := Value.isInt_shape (k := i) (v := v) h
    exact .inl ⟨i, t, rfl, e⟩
  | .inr x, v, h => by
    obtain ⟨t, e⟩ := Value.isStrOf_shape (x := x) (v := v) h
    exact .inr ⟨x, t, rfl, e⟩
theorem key_ll (a b : Int) : decide ((Sum.inl a : Key) = Sum.inl b) = (a == b) := by
  by_cases e : a = b
  · subst e; simp
  · have h : ¬ (Sum.inl a : Key) = Sum.inl b := fun q => e (Sum.inl.inj q)
    rw [decide_eq_false h]
    exact (beq_eq_false_iff_ne.mpr e).symm
theorem key_rr (a b : Str) : decide ((Sum.inr a : Key) = Sum.inr b) = decide (a = b) := by
  by_cases e : a = b
  · subst e; simp
  · have h : ¬ (Sum.inr a : Key) = Sum.inr b := fun q => e (Sum.inr.inj q)
    rw [decide_eq_false h, decide_eq_false e]
theorem key_lr (a : Int) (b : Str) : decide ((Sum.inl a : Key) = Sum.inr b) = false := decide_eq_false (fun q => nomatch q)
theorem key_rl (a : Str) (b : Int) : decide ((Sum.inr a : Key) = Sum.inl b) = false := decide_eq_false (fun q => nomatch q)
noncomputable def mixKind (prog : Program) (w : World) : PySem.KeyKind prog w Key where
  is := keyIs
  hash := keyH w
  inj := fun v a b ha hb => by
    rcases keyIs_shape ha with ⟨i, t, rfl, rfl⟩ | ⟨x, t, rfl, rfl⟩
    · rcases keyIs_shape hb with ⟨j, u, rfl, e⟩ | ⟨y, u, rfl, e⟩
      · injection e with e1 _; rw [e1]
      · exact nomatch e
    · rcases keyIs_shape hb with ⟨j, u, rfl, e⟩ | ⟨y, u, rfl, e⟩
      · exact nomatch e
      · injection e with e1 _; rw [e1]
  byValue := fun k v h => by
    rcases keyIs_shape h with ⟨i, t, rfl, rfl⟩ | ⟨x, t, rfl, rfl⟩ <;> rfl
  pyHash := fun hv h => by
    rcases keyIs_shape hv with ⟨i, t, rfl, rfl⟩ | ⟨x, t, rfl, rfl⟩
    · exact wpAny_pyHash_int h
    · exact wpAny_pyHash_str h
  eqBool := fun hu hv h => by
    rcases keyIs_shape hu with ⟨i, t, rfl, rfl⟩ | ⟨x, t, rfl, rfl⟩
    · rcases keyIs_shape hv with ⟨j, u, rfl, rfl⟩ | ⟨y, u, rfl, rfl⟩
      · rw [key_ll] at h; exact wpAny_eqBool_int h
      · rw [key_lr] at h; exact SeqAt.EqAt.int_str i t y u _ _ _ _ h
    · rcases keyIs_shape hv with ⟨j, u, rfl, rfl⟩ | ⟨y, u, rfl, rfl⟩
      · rw [key_rl] at h; exact SeqAt.EqAt.str_int x t j u _ _ _ _ h
      · rw [key_rr] at h; exact wpAny_eqBool_str h
  «strs» := fun k x t v h => by
    rcases keyIs_shape h with ⟨i, u, rfl, e⟩ | ⟨y, u, rfl, e⟩
    · exact nomatch e
    · injection e with e1 _
      subst e1
      cases v <;> rfl
end L2
namespace L2
open PySem PySem.Spec PyProof.Rows
inductive V where
  | non | bl (b : Bool) | int (i : Int) | str (x : Str) | byt (b : Array UInt8) | flt (b : UInt64) | ref (a : Addr) | ty (n : String)
  deriving DecidableEq
noncomputable def RelV : V → Value → Prop
  | .non, u => u = Value.none
  | .bl b, u => u = Value.bool b
  | .int i, u => ∃ t, u = Value.int i t
  | .str x, u => ∃ t, u = Value.str x t
  | .byt b, u => ∃ t, u = Value.bytes b t
  | .flt b, u => ∃ t, u = Value.float b t
  | .ref a, u => u = Value.ref a
  | .ty n, u => u = Value.type n
noncomputable abbrev Vals : List V → List Value → Prop := Paired RelV
theorem Vals.length {xs : List V} {us : List Value} (r : Vals xs us) : xs.length = us.length := Paired.length r
theorem Vals.get : ∀ {xs : List V} {us : List Value} {i : Nat} {x : V}, Vals xs us → xs[i]? = some x → ∃ u, us[i]? = some u ∧ RelV x u
  | _, _, _, _, .nil, e => by simp at e
  | _, _, 0, _, .cons r _, e => by simp at e; subst e; exact ⟨_, rfl, r⟩
  | _, _, i + 1, x, .cons _ t, e => by
    obtain ⟨u, h1, h2⟩ := Vals.get (i := i) (x := x) t (by simpa using e)
    exact ⟨u, by simpa using h1, h2⟩
theorem Vals.set {x : V} {u : Value} (r : RelV x u) : ∀ {xs : List V} {us : List Value} (i : Nat), Vals xs us → Vals (xs.set i x) (us.set i u)
  | _, _, _, .nil => .nil
  | _, _, 0, .cons _ t => .cons r t
  | _, _, i + 1, .cons q t => .cons q (Vals.set r i t)
theorem Vals.append : ∀ {xs ys : List V} {us ws : List Value}, Vals xs us → Vals ys ws → Vals (xs ++ ys) (us ++ ws)
  | _, _, _, _, .nil, s => s
  | _, _, _, _, .cons r t, s => .cons r (Vals.append t s)
theorem Vals.take : ∀ {xs : List V} {us : List Value} (n : Nat), Vals xs us → Vals (xs.take n) (us.take n)
  | _, _, 0, _ => .nil
  | _, _, _ + 1, .nil => .nil
  | _, _, n + 1, .cons r t => .cons r (Vals.take n t)
theorem Vals.drop : ∀ {xs : List V} {us : List Value} (n : Nat), Vals xs us → Vals (xs.drop n) (us.drop n)
  | _, _, 0, r => r
  | _, _, _ + 1, .nil => .nil
  | _, _, n + 1, .cons _ t => Vals.drop n t
noncomputable def RelO : Option V → Option Value → Prop
  | some v, some u => RelV v u
  | none, none => True
  | _, _ => False
noncomputable def KV {κ : Type} : List (κ × V) → List (κ × Value) → Prop := Paired fun (p : κ × V) (q : κ × Value) => p.1 = q.1 ∧ RelV p.2 q.2
noncomputable def kV : Key → V
  | .inl i => .int i
  | .inr x => .str x
inductive HO where
  | lst (xs : List V)
  | tup (xs : List V)
  | dK (kvs : List (Key × V)) | dT (kvs : List (List Key × V))
  | set (S : Int → Bool) (n : Nat)
  | ins (C dx : Addr) (fs : List (Str × V))
  | own (x : Addr)
  | xd (fs : List (Str × V))
  | met (f x : Addr)
  | rng (lo hi : Int)
  | frz (o : Obj) (u : HO)
  | tbl (ps : Array Value)
  | ext (φ : Heap → Prop)
noncomputable abbrev Hp := Addr → Option HO
noncomputable def upd (H : Hp) (a : Addr) (o : HO) : Hp := fun b => if b = a then some o else H b
theorem upd_same {H : Hp} {a : Addr} {o : HO} : upd H a o a = some o := by unfold upd; rw [if_pos rfl]
theorem upd_ne {H : Hp} {a b : Addr} {o : HO} (h : b ≠ a) : upd H a o b = H b := by unfold upd; rw [if_neg h]
theorem ne_of {H : Hp} {a b : Addr} {o u : HO} (h : H a = some o) (h' : H b = some u) (d : o ≠ u) : a ≠ b := by
  intro e; subst e; rw [h] at h'; exact d (Option.some.inj h')
theorem ne_of_none {H : Hp} {a b : Addr} {o : HO} (h : H a = some o) (h' : H b = none) : a ≠ b := by
  intro e; subst e; rw [h] at h'; cases h'
section
variable (P : Program) (w : World)
noncomputable def ObjOk (H : Hp) (h : Heap) (a : Addr) : HO → Prop
  | .lst xs => xs.length ≤ sizeLine ∧ ∃ (its : List Value) (n : Nat), Vals xs its ∧ h.get? a = some { cls := .type "list", data := .seq its.toArray n }
  | .tup xs => xs.length ≤ sizeLine ∧ ∃ its : List Value, Vals xs its ∧ IsTup h a its.toArray
  | .dK kvs => kvs.length ≤ sizeLine ∧ (a == sysModules) = false ∧ ∃ vs, KV kvs vs ∧ h.DictOf (mixKind P w) a vs
  | .dT kvs => kvs.length ≤ sizeLine ∧ (a == sysModules) = false ∧ ∃ xs : List (List Key × Addr × Value),
      Paired (fun (p : List Key × V) (q : List Key × Addr × Value) => p.1 = q.1 ∧ H q.2.1 = some (.tup (p.1.map kV)) ∧ RelV p.2 q.2.2) kvs xs ∧
      ∃ o es ep, h.get? a = some o ∧ o.ExactDict ∧ o.data = .dict es ep ∧ es.toList = xs.map (entryOfKey (tupleKind (mixKind P w))) ∧ (xs.map (·.1)).Nodup
  | .set S n => h.SetOf (intKind P w) a S n
  | .ins C dx fs => H dx = some (.own a) ∧ fs.length ≤ 1000 ∧ dx ≠ a ∧ h.get? a = some (PySem.W.instObj C dx) ∧
      ∃ mA, h.Ns1 dx mA ∧ (∀ f, RelO (fs.lookup f) (mA f)) ∧ PySem.Within mA (fs.map (·.1))
  | .own _ => ∃ o, h.get? a = some o
  | .xd fs => ∃ mA, h.Ns1 a mA ∧ ∀ f, RelO (fs.lookup f) (mA f)
  | .rng lo hi => ∃ t u v, h.get? a = some { cls := .type "range", data := .fields #[.int lo t, .int hi u, .int 1 v] }
  | .frz o u => h.get? a = some o ∧ ObjOk H h a u
  | .tbl ps => h.get? a = some { cls := .none, data := .fields ps }
  | .met f x => h.get? a = some (PySem.W.methodObj (.ref f) (.ref x))
  | .ext φ => φ h ∧ (∃ o, h.get? a = some o) ∧ ∀ h1 h2 : Heap, φ h1 → (∀ o, h1.get? a = some o → h2.get? a = some o) → φ h2
noncomputable def HOk (H : Hp) (h : Heap) : Prop := ∀ a o, H a = some o → ObjOk P w H h a o
end
section
variable {P : Program} {w : World} {H H' : Hp} {h h' : Heap} {a : Addr} {o : HO}
theorem ObjOk.lt (x : ObjOk P w H h a o) : a < h.objs.size := by
  cases o with
  | lst xs => obtain ⟨_, _, _, _, e⟩ := x; exact Heap.lt_size e
  | tup xs => obtain ⟨_, _, _, p⟩ := x; exact p.lt
  | dK kvs => obtain ⟨_, _, _, _, o, _, _, e, _⟩ := x; exact Heap.lt_size e
  | dT kvs => obtain ⟨_, _, _, _, o, _, _, e, _⟩ := x; exact Heap.lt_size e
  | set S n => obtain ⟨o, _, _, _, e, _⟩ := x; exact Heap.lt_size e
  | ins C dx fs => obtain ⟨_, _, _, e, _⟩ := x; exact Heap.lt_size e
  | own y => obtain ⟨_, e⟩ := x; exact Heap.lt_size e
  | xd fs => obtain ⟨_, ⟨_, _, _, e, _⟩, _⟩ := x; exact Heap.lt_size e
  | rng lo hi => obtain ⟨_, _, _, e⟩ := x; exact Heap.lt_size e
  | frz ob u => obtain ⟨e, _⟩ := x; exact Heap.lt_size e
  | tbl ps => exact Heap.lt_size (show h.get? a = some _ from x)
  | met f y => exact Heap.lt_size (show h.get? a = some _ from x)
  | ext φ => obtain ⟨_, ⟨_, e⟩, _⟩ := x; exact Heap.lt_size e
theorem Paired.mapP {α β : Type} {F G : α → β → Prop} : ∀ {l₁ : List α} {l₂ : List β}, Paired F l₁ l₂ → (∀ a b, F a b → G a b) → Paired G l₁ l₂
  | _, _, .nil, _ => .nil
  | _, _, .cons r t, f => .cons (f _ _ r) (Paired.mapP t f)
theorem ObjOk.stay (x : ObjOk P w H h a o) (k : ∀ b u, (b = a ∨ H b = some (.own a)) → h.get? b = some u → h'.get? b = some u)
    (ho : ∀ b, H b = some (.own a) → H' b = some (.own a)) (ht : ∀ b xs, H b = some (.tup xs) → H' b = some (.tup xs)) : ObjOk P w H' h' a o := by
  induction o with
  | lst xs => obtain ⟨z, its, n, r, e⟩ := x; exact ⟨z, its, n, r, k _ _ (.inl rfl) e⟩
  | tup xs => obtain ⟨z, its, r, ob, e, c⟩ := x; exact ⟨z, its, r, ob, k _ _ (.inl rfl) e, c⟩
  | dK kvs => obtain ⟨z, y, vs, r, ob, es, ep, e, c⟩ := x; exact ⟨z, y, vs, r, ob, es, ep, k _ _ (.inl rfl) e, c⟩
  | dT kvs =>
    obtain ⟨z, y, xs, r, ob, es, ep, e, c⟩ := x
    exact ⟨z, y, xs, Paired.mapP r fun p q z => ⟨z.1, ht _ _ z.2.1, z.2.2⟩, ob, es, ep, k _ _ (.inl rfl) e, c⟩
  | set S n => obtain ⟨ob, es, ep, t, e, c⟩ := x; exact ⟨ob, es, ep, t, k _ _ (.inl rfl) e, c⟩
  | ins C dx fs =>
    obtain ⟨d, z, ne, e, mA, ⟨od, es, ep, e2, c⟩, r⟩ := x
    exact ⟨ho _ d, z, ne, k _ _ (.inl rfl) e, mA, ⟨od, es, ep, k _ _ (.inr d) e2, c⟩, r⟩
  | own y => obtain ⟨ob, e⟩ := x; exact ⟨ob, k _ _ (.inl rfl) e⟩
  | xd fs => obtain ⟨mA, ⟨od, es, ep, e, c⟩, r⟩ := x; exact ⟨mA, ⟨od, es, ep, k _ _ (.inl rfl) e, c⟩, r⟩
  | rng lo hi => obtain ⟨t, u, v, e⟩ := x; exact ⟨t, u, v, k _ _ (.inl rfl) e⟩
  | frz ob u ih => obtain ⟨e, q⟩ := x; exact ⟨k _ _ (.inl rfl) e, ih q⟩
  | tbl ps =>
    have e : h.get? a = some { cls := .none, data := .fields ps } := x
    show h'.get? a = some { cls := .none, data := .fields ps }
    exact k a _ (.inl rfl) e
  | met f y =>
    have e : h.get? a = some (PySem.W.methodObj (.ref f) (.ref y)) := x
    show h'.get? a = some (PySem.W.methodObj (.ref f) (.ref y))
    exact k a _ (.inl rfl) e
  | ext φ => obtain ⟨p, ⟨o, e⟩, st⟩ := x; exact ⟨st _ _ p fun o q => k _ _ (.inl rfl) q, ⟨o, k _ _ (.inl rfl) e⟩, st⟩
theorem HOk.lt (x : HOk P w H h) (e : H a = some o) : a < h.objs.size := (x a o e).lt
theorem HOk.fresh (x : HOk P w H h) (e : h.objs.size ≤ a) : H a = none := by
  cases q : H a with
  | none => rfl
  | some u => exact absurd (Nat.lt_of_lt_of_le (x.lt q) e) (Nat.lt_irrefl _)
theorem HOk.kept (x : HOk P w H h) (k : ∀ b u, h.get? b = some u → h'.get? b = some u) : HOk P w H h' := fun a o e =>
  (x a o e).stay (fun b u _ q => k b u q) (fun _ q => q) fun _ _ q => q
theorem HOk.laid (x : HOk P w H h) (k : ∀ b u, h.get? b = some u → h'.get? b = some u) (hp : h.objs.size ≤ a) (new : ObjOk P w (upd H a o) h' a o) : HOk P w (upd H a o) h' := fun b u e => by
  have hn := x.fresh hp
  by_cases hb : b = a
  · subst hb; rw [upd_same] at e; cases e; exact new
  · rw [upd_ne hb] at e
    exact (x b u e).stay (fun c v _ q => k c v q) (fun c q => by rw [upd_ne (ne_of_none q hn)]; exact q) fun c xs q => by rw [upd_ne (ne_of_none q hn)]; exact q
end
noncomputable def Rd (H : Hp) (a : Addr) (u : HO) : Prop := H a = some u ∨ ∃ o, H a = some (.frz o u)
theorem Rd.of {H : Hp} {a : Addr} {u : HO} (h : H a = some u) : Rd H a u := .inl h
theorem Rd.ok {P : Program} {w : World} {H : Hp} {h : Heap} {a : Addr} {u : HO} (r : Rd H a u) (x : HOk P w H h) : ObjOk P w H h a u := by
  rcases r with r | ⟨o, r⟩
  · exact x a u r
  · obtain ⟨_, q⟩ := x a _ r
    exact q
noncomputable def Mut : Option HO → Prop
  | some (.lst _) => True
  | some (.dK _) => True
  | some (.dT _) => True
  | some (.set _ _) => True
  | some (.ins _ _ _) => True
  | some (.ext _) => True
  | _ => False
section
variable {P : Program} {w : World} {H : Hp} {h h' : Heap} {x e : Addr} {o' : HO}
theorem HOk.write (ok : HOk P w H h) (mu : Mut (H x)) (he : e = x ∨ H e = some (.own x)) (k : ∀ b u, b ≠ e → h.get? b = some u → h'.get? b = some u) (heo : ∃ u, h'.get? e = some u)
    (new : ObjOk P w (upd H x o') h' x o') : HOk P w (upd H x o') h' := fun b u q => by
  have nown : ∀ c y, H c = some (.own y) → c ≠ x := fun c y r z => by subst z; rw [r] at mu; exact mu
  have ntup : ∀ c xs, H c = some (.tup xs) → c ≠ x := fun c xs r z => by subst z; rw [r] at mu; exact mu
  by_cases hb : b = x
  · subst hb; rw [upd_same] at q; cases q; exact new
  · rw [upd_ne hb] at q
    by_cases hbe : b = e
    · have q' : H b = some (.own x) := by
        rcases he with z | z
        · exact absurd (hbe.trans z) hb
        · rw [hbe]; exact z
      rw [q] at q'; cases q'
      obtain ⟨v, hv⟩ := heo
      exact ⟨v, by rw [hbe]; exact hv⟩
    · refine (ok b u q).stay (fun c v hc r => k c v ?_ r) (fun c r => by rw [upd_ne (nown c b r)]; exact r) fun c xs r => by rw [upd_ne (ntup c xs r)]; exact r
      rcases hc with rfl | hc
      · exact hbe
      · rintro rfl
        rcases he with z | z
        · exact nown c b hc z
        · rw [hc] at z; cases z; exact hb rfl
end
structure Un (fs ex : List Addr) (H H' : Hp) (h h' : Heap) : Prop where
  keep : ∀ b o, h.get? b = some o → H b = none → b ∉ fs → b ∉ ex → h'.get? b = some o
  slot : ∀ b o, h.get? b = some o → H b = none → b ∈ fs → b ∉ ex → ∃ sl, h'.get? b = some { o with slots := sl }
  free : ∀ b o, h.get? b = some o → H b = none → b ∉ ex → H' b = none
  there : ∀ b o, h.get? b = some o → b ∉ ex → ∃ o', h'.get? b = some o'
  tups : ∀ b xs, H b = some (.tup xs) → H' b = some (.tup xs)
  frzs : ∀ b o u, H b = some (.frz o u) → H' b = some (.frz o u)
  tbls : ∀ b ps, H b = some (.tbl ps) → ∃ more, H' b = some (.tbl (ps ++ more))
section
variable {fs fs' ex ex' : List Addr} {H H1 H2 : Hp} {h h1 h2 h' : Heap} {a x e : Addr} {o : HO}
theorem Un.any (u : Un fs ex H H1 h h1) {b : Addr} {ob : Obj} (q : h.get? b = some ob) (n : H b = none) (hx : b ∉ ex) : ∃ sl, h1.get? b = some { ob with slots := sl } := by
  by_cases hb : b ∈ fs
  · exact u.slot b ob q n hb hx
  · exact ⟨ob.slots, u.keep b ob q n hb hx⟩
theorem Un.trans (a : Un fs ex H H1 h h1) (b : Un fs ex H1 H2 h1 h2) : Un fs ex H H2 h h2 where
  keep := fun c ob q n hc hx => b.keep c ob (a.keep c ob q n hc hx) (a.free c ob q n hx) hc hx
  slot := fun c ob q n hc hx => by
    obtain ⟨sl, e1⟩ := a.slot c ob q n hc hx
    obtain ⟨sl', e2⟩ := b.slot c _ e1 (a.free c ob q n hx) hc hx
    exact ⟨sl', e2⟩
  free := fun c ob q n hx => by
    obtain ⟨o', e1⟩ := a.there c ob q hx
    exact b.free c o' e1 (a.free c ob q n hx) hx
  there := fun c ob q hx => by
    obtain ⟨o', e1⟩ := a.there c ob q hx
    exact b.there c o' e1 hx
  tups := fun c xs q => b.tups c xs (a.tups c xs q)
  frzs := fun c ob xs q => b.frzs c ob xs (a.frzs c ob xs q)
  tbls := fun c ps q => by
    obtain ⟨m1, e1⟩ := a.tbls c ps q
    obtain ⟨m2, e2⟩ := b.tbls c _ e1
    exact ⟨m1 ++ m2, by rw [e2, Array.append_assoc]⟩
theorem Un.kept (k : ∀ b u, h.get? b = some u → h'.get? b = some u) : Un fs ex H H h h' :=
  ⟨fun b ob q _ _ _ => k b ob q, fun b ob q _ _ _ => ⟨ob.slots, k b ob q⟩, fun _ _ _ n _ => n, fun b ob q _ => ⟨ob, k b ob q⟩, fun _ _ q => q, fun _ _ _ q => q, fun _ ps q => ⟨#[], by rw [q]; simp⟩⟩
theorem Un.refl : Un fs ex H H h h := Un.kept fun _ _ q => q
theorem Un.laid (k : ∀ b u, h.get? b = some u → h'.get? b = some u) (hp : h.objs.size ≤ a) (hn : H a = none) : Un fs ex H (upd H a o) h h' where
  keep := fun b u q _ _ _ => k b u q
  slot := fun b u q _ _ _ => ⟨u.slots, k b u q⟩
  free := fun b u q n _ => by rw [upd_ne (Nat.ne_of_lt (Nat.lt_of_lt_of_le (Heap.lt_size q) hp))]; exact n
  there := fun b u q _ => ⟨u, k b u q⟩
  tups := fun b xs q => by rw [upd_ne (ne_of_none q hn)]; exact q
  frzs := fun b u xs q => by rw [upd_ne (ne_of_none q hn)]; exact q
  tbls := fun b ps q => ⟨#[], by rw [upd_ne (ne_of_none q hn), q]; simp⟩
theorem Un.write (mu : Mut (H x)) (he : e = x ∨ H e = some (.own x)) (k : ∀ b u, b ≠ e → h.get? b = some u → h'.get? b = some u) (heo : ∃ u, h'.get? e = some u) : Un fs ex H (upd H x o) h h' := by
  have hx : ∀ b, H b = none → b ≠ x := fun b n z => by subst z; rw [n] at mu; exact mu
  have hb : ∀ b, H b = none → b ≠ e := fun b n z => by
    subst z
    rcases he with r | r
    · exact hx b n r
    · rw [n] at r; cases r
  have hm : ∀ b u, H b = some u → ¬ Mut (some u) → b ≠ x := fun b u q nm z => by subst z; rw [q] at mu; exact nm mu
  refine ⟨fun b u q n _ _ => k b u (hb b n) q, fun b u q n _ _ => ⟨u.slots, k b u (hb b n) q⟩, fun b u q n _ => by rw [upd_ne (hx b n)]; exact n, fun b u q _ => ?_,
    fun b xs q => by rw [upd_ne (hm b _ q fun z => z)]; exact q, fun b u xs q => by rw [upd_ne (hm b _ q fun z => z)]; exact q, fun b ps q => ⟨#[], by rw [upd_ne (hm b _ q fun z => z), q]; simp⟩⟩
  by_cases hbe : b = e
  · subst hbe; exact heo
  · exact ⟨u, k b u hbe q⟩
theorem Un.mono (u : Un fs ex H H1 h h1) (hs : ∀ b ∈ fs, b ∈ fs') (hx : ∀ b ∈ ex, b ∈ ex') : Un fs' ex' H H1 h h1 :=
  ⟨fun b ob q n hb he => u.keep b ob q n (fun z => hb (hs b z)) fun z => he (hx b z), fun _ _ q n _ he => u.any q n fun z => he (hx _ z), fun b ob q n he => u.free b ob q n fun z => he (hx b z), fun b ob q he => u.there b ob q fun z => he (hx b z), u.tups, u.frzs, u.tbls⟩
end
noncomputable def trk (h : Heap) (H : Hp) : List Addr := (List.range h.objs.size).filter fun a => (H a).isSome
noncomputable def hidT (h : Heap) (H : Hp) : Heap := PySem.W.hideAll h (trk h H)
theorem hidT_size (h : Heap) (H : Hp) : (hidT h H).objs.size = h.objs.size := PySem.W.hideAll_size _ _
theorem hidT_get {h : Heap} {H : Hp} {b : Addr} {o : Obj} (e : h.get? b = some o) (n : H b = none) : (hidT h H).get? b = some o :=
  PySem.W.hideAll_get _ e fun hm => by
    have q : (H b).isSome = true := (List.mem_filter.mp hm).2
    rw [n] at q; simp at q
theorem of_hidT {h : Heap} {H : Hp} {b : Addr} {o : Obj} (e : (hidT h H).get? b = some o) : h.get? b = some o ∧ H b = none := by
  have e' : h.get? b = some o := PySem.W.of_hideAll (trk h H) e
  refine ⟨e', ?_⟩
  cases q : H b with
  | none => rfl
  | some x =>
    have hm : b ∈ trk h H := List.mem_filter.mpr ⟨List.mem_range.mpr (Heap.lt_size e'), by simp [q]⟩
    have z : (hidT h H).get? b = none := PySem.W.hideAll_none (trk h H) hm
    rw [z] at e; cases e
noncomputable def allNews (g h : Heap) (L : Addr) : List (Addr × Obj) := (List.range h.objs.size).filterMap fun a => if a = L ∨ (g.get? a).isSome = true then none else (h.get? a).map fun o => (a, o)
noncomputable def rest (g h : Heap) (L d : Addr) : List (Addr × Obj) := (allNews g h L).filter fun p => decide (p.1 ≠ d)
end L2
namespace L2
open PySem PySem.Spec PyProof.Rows
structure Mod (K : PySem.W.Frag) (mg : Str → Option Value) (base : Heap) : Prop where
  kin : K.In base
  glob : base.Ns mainGlobals mg
  blt : ∃ mb, base.Ns builtinsNs mb ∧ ∀ x : Str, x ≠ "__name__" → mb x = bootBuiltins x
  nolimit : base.NoLimit
structure Cx where
  prog : Program
  w : World
  K : PySem.W.Frag
  mg : Str → Option Value
  base : Heap
  A : Around
  N : List Str
  s₀ : Shared
  H₀ : Hp
  env : Env
  outer : List Env
  stack : List Env
  ex : List Addr
  fn : Str → Bool
  calm : Bool
  pn : List (Addr × Obj)
  xe : Value → Shared → Prop
noncomputable def frs (l : List Env) : List Addr := l.filterMap (·.frame)
noncomputable abbrev Cx.fs (X : Cx) : List Addr := frs X.outer
noncomputable def Vis (sc : Scope) (x : Str) : Prop := sc.names.lookup x = some .local ∨ sc.names.lookup x = some .cell ∨ sc.names.lookup x = some .free
noncomputable def Loc (sc : Scope) (x : Str) : Prop := sc.names.lookup x = some .local ∨ sc.names.lookup x = some .cell
noncomputable def Look (env : Env) (h : Heap) (m : Str → Option Value) (x : Str) (u : Value) : Prop :=
  (env.kindOf x = some .local ∧ m x = some u) ∨ ((env.kindOf x = some .cell ∨ env.kindOf x = some .free) ∧ ∃ c, env.cells.lookup x = some c ∧ h.IsCell c (some u))
structure Cx.Ok (X : Cx) : Prop where
  mod : Mod X.K X.mg X.base
  kind : X.env.scope.kind = .function
  glob : X.env.globals = mainGlobals
  blt : X.env.builtins = builtinsNs
  above : X.s₀.heap.objs.size ≤ X.env.locals
  inj : ∀ x y c, X.env.cells.lookup x = some c → X.env.cells.lookup y = some c → x = y
  has : ∀ x, (X.env.kindOf x = some .cell ∨ X.env.kindOf x = some .free) → ∃ c, X.env.cells.lookup x = some c
  cab : ∀ x c, X.fn x = true → X.env.cells.lookup x = some c → X.s₀.heap.objs.size ≤ c
  hd : X.calm = true → X.A.handled = none
  frames : X.A.frames = some X.stack
  stk : X.stack = X.outer ∨ (X.stack = X.env :: X.outer ∧ X.env.frame = some X.env.locals)
  exf : ∀ b ∈ X.ex, b ≠ X.env.locals ∧ ∀ x c, X.env.cells.lookup x = some c → c ≠ b
  bs : ∀ b o, X.base.get? b = some o → X.s₀.heap.get? b = some o ∧ X.H₀ b = none
  bsz : X.base.objs.size ≤ X.s₀.heap.objs.size
  noex : ∀ b o, X.base.get? b = some o → b ∉ X.ex
  exfs : ∀ b ∈ X.ex, b ∉ X.fs
  funs : X.s₀.heap.FunFrames X.base X.outer
  frf : ∀ b ∈ X.fs, X.H₀ b = none
structure Inv (X : Cx) (pins : List (Addr × Obj)) (σ : List (Option V)) (H : Hp) (s : Shared) : Prop where
  ok : X.Ok
  os : s.os = X.s₀.os
  bare : AllBare s.gens
  base : Un X.fs X.ex X.H₀ H X.s₀.heap s.heap
  loc : ∃ m, s.heap.Ns X.env.locals m ∧ ∀ (i : Nat) (x : Str) (v : V), X.N[i]? = some x → σ[i]? = some (some v) → Vis X.env.scope x → ∃ u, RelV v u ∧ Look X.env s.heap m x u
  cell : ∀ x c, X.env.cells.lookup x = some c → ∃ v, s.heap.IsCell c v
  free : H X.env.locals = none
  freeC : ∀ x c, X.env.cells.lookup x = some c → H c = none
  pin : ∀ p ∈ X.pn ++ pins, s.heap.get? p.1 = some p.2 ∧ H p.1 = none ∧ p.1 ≠ X.env.locals ∧ p.1 ∉ X.fs ∧ ∀ v, p.2.data ≠ .cell v
  hok : HOk X.prog X.w H s.heap
  len : σ.length = X.N.length
section
variable {X : Cx} {pins : List (Addr × Obj)} {σ : List (Option V)} {H H' : Hp} {s : Shared} {h' : Heap}
theorem Cx.Ok.nofr (ok : X.Ok) {b : Addr} {o : Obj} (e : X.base.get? b = some o) : b ∉ X.fs := fun hb => by
  have := (ok.funs.mem hb).1
  rw [e] at this; cases this
theorem Inv.bs (I : Inv X pins σ H s) : ∀ b o, X.base.get? b = some o → s.heap.get? b = some o ∧ H b = none := fun b o e =>
  ⟨I.base.keep b o (I.ok.bs b o e).1 (I.ok.bs b o e).2 (I.ok.nofr e) (I.ok.noex b o e), I.base.free b o (I.ok.bs b o e).1 (I.ok.bs b o e).2 (I.ok.noex b o e)⟩
theorem Inv.bk (I : Inv X pins σ H s) : ∀ b o, X.base.get? b = some o → s.heap.get? b = some o := fun b o e => (I.bs b o e).1
theorem Inv.mod (I : Inv X pins σ H s) : Mod X.K X.mg X.base := I.ok.mod
theorem Inv.kIn (I : Inv X pins σ H s) : X.K.In s.heap := I.ok.mod.kin.keeps I.bk
theorem Inv.nolimit (I : Inv X pins σ H s) : s.heap.NoLimit := I.ok.mod.nolimit.keeps I.bk
theorem Inv.lt (I : Inv X pins σ H s) : X.env.locals < s.heap.objs.size := let ⟨_, hn, _⟩ := I.loc; hn.lt
theorem Inv.sz (I : Inv X pins σ H s) : X.s₀.heap.objs.size ≤ s.heap.objs.size := Nat.le_trans I.ok.above (Nat.le_of_lt I.lt)
theorem Inv.nofs (I : Inv X pins σ H s) {a : Addr} (h : s.heap.objs.size ≤ a) : a ∉ X.fs := fun hb => by
  obtain ⟨_, o, ho, _⟩ := I.ok.funs.mem hb
  exact absurd (Nat.lt_of_lt_of_le (Heap.lt_size ho) (Nat.le_trans I.sz h)) (Nat.lt_irrefl _)
theorem Inv.cne (I : Inv X pins σ H s) : ∀ x c, X.env.cells.lookup x = some c → c ≠ X.env.locals := fun x c e z => by
  obtain ⟨v, o, ho, hd⟩ := I.cell x c e
  obtain ⟨m, ⟨o', es, ep, ho', hd', _⟩, _⟩ := I.loc
  rw [z, ho'] at ho; cases ho; rw [hd'] at hd; cases hd
theorem Inv.funs (I : Inv X pins σ H s) : s.heap.FunFrames X.base X.outer := by
  have all : ∀ (l : List Env), (∀ b ∈ frs l, b ∈ X.fs) → X.s₀.heap.FunFrames X.base l → s.heap.FunFrames X.base l := by
    intro l
    induction l with
    | nil => intro _ _; trivial
    | cons env r ih =>
      intro hs hl
      obtain ⟨hk, ⟨L, o, hf, hn, ho, hd⟩, hr⟩ := hl
      have hL : L ∈ X.fs := hs L (by unfold frs; rw [List.filterMap_cons, hf]; exact List.mem_cons_self)
      obtain ⟨sl, e⟩ := I.base.slot L o ho (I.ok.frf L hL) hL fun z => I.ok.exfs L z hL
      exact ⟨hk, ⟨L, _, hf, hn, e, hd⟩, ih (fun b hb => hs b (by unfold frs; rw [List.filterMap_cons, hf]; exact List.mem_cons_of_mem _ hb)) hr⟩
  exact all X.outer (fun _ hb => hb) I.ok.funs
theorem Inv.stack (I : Inv X pins σ H s) : s.heap.FunFrames X.base X.stack := by
  rcases I.ok.stk with e | ⟨e, hf⟩
  · rw [e]; exact I.funs
  · rw [e]
    obtain ⟨m, hn, _⟩ := I.loc
    refine .cons (by rw [I.ok.kind]; decide) hf hn ?_ I.funs
    exact Heap.get?_none_of_le (Nat.le_trans I.ok.bsz I.ok.above)
theorem Inv.stkSub (I : Inv X pins σ H s) : ∀ b ∈ frs X.stack, b ∈ X.env.locals :: X.fs := fun b hb => by
  rcases I.ok.stk with e | ⟨e, hf⟩
  · rw [e] at hb; exact List.mem_cons_of_mem _ hb
  · rw [e] at hb
    unfold frs at hb
    rw [List.filterMap_cons, hf] at hb
    exact hb
theorem Inv.stkFree (I : Inv X pins σ H s) : ∀ b ∈ frs X.stack, H b = none := fun b hb => by
  rcases List.mem_cons.mp (I.stkSub b hb) with e | hb
  · rw [e]; exact I.free
  · obtain ⟨_, o, ho, _⟩ := I.ok.funs.mem hb
    exact I.base.free b o ho (I.ok.frf b hb) fun z => I.ok.exfs b z hb
theorem Inv.step {g' : Array GenState} {t' : Nat} {d' : Drawn} {ch : List Addr} (I : Inv X pins σ H s)
    (hch : ∀ b ∈ ch, (b ∈ X.ex ∨ X.s₀.heap.objs.size ≤ b) ∧ b ≠ X.env.locals ∧ (∀ x c, X.env.cells.lookup x = some c → c ≠ b) ∧ ∀ p ∈ X.pn ++ pins, p.1 ≠ b)
    (keep : ∀ b o, b ≠ X.env.locals → b ∉ X.fs → b ∉ ch → s.heap.get? b = some o → H b = none → h'.get? b = some o)
    (slot : ∀ b o, b ≠ X.env.locals → b ∈ X.fs → b ∉ ch → s.heap.get? b = some o → H b = none → ∃ sl, h'.get? b = some { o with slots := sl }) (free : ∀ b o, b ∉ ch → s.heap.get? b = some o → H b = none → H' b = none)
    (there : ∀ b o, b ∉ ch → s.heap.get? b = some o → ∃ o', h'.get? b = some o')
    (tups : ∀ b xs, H b = some (.tup xs) → H' b = some (.tup xs)) (frzs : ∀ b o u, H b = some (.frz o u) → H' b = some (.frz o u)) (tbls : ∀ b ps, H b = some (.tbl ps) → ∃ more, H' b = some (.tbl (ps ++ more)))
    (ns : ∀ m, s.heap.Ns X.env.locals m → h'.Ns X.env.locals m) (hok : HOk X.prog X.w H' h') (hg : AllBare g') :
    Inv X pins σ H' { s with heap := h', gens := g', drawn := d', toks := t' } := by
  have neL : ∀ b o, X.s₀.heap.get? b = some o → b ≠ X.env.locals := fun b o e => Nat.ne_of_lt (Nat.lt_of_lt_of_le (Heap.lt_size e) I.ok.above)
  have neC : ∀ b o, X.s₀.heap.get? b = some o → b ∉ X.ex → b ∉ ch := fun b o e hx hb => by
    rcases (hch b hb).1 with z | z
    · exact hx z
    · exact absurd (Nat.lt_of_lt_of_le (Heap.lt_size e) z) (Nat.lt_irrefl _)
  have cellK : ∀ x c, X.env.cells.lookup x = some c → ∀ v, s.heap.IsCell c v → h'.IsCell c v := fun x c e v hx1_ => by
    obtain ⟨o, ho, hd⟩ := hx1_
    have nch : c ∉ ch := fun z => (hch c z).2.2.1 x c e rfl
    by_cases hc : c ∈ X.fs
    · obtain ⟨sl, q⟩ := slot c o (I.cne x c e) hc nch ho (I.freeC x c e)
      exact ⟨_, q, hd⟩
    · exact ⟨o, keep c o (I.cne x c e) hc nch ho (I.freeC x c e), hd⟩
  refine ⟨I.ok, I.os, hg, ⟨fun b o e n hb hx => ?_, fun b o e n hb hx => ?_, fun b o e n hx => ?_, fun b o e hx => ?_, fun b xs e => tups b xs (I.base.tups b xs e), fun b o xs e => frzs b o xs (I.base.frzs b o xs e), fun b ps e => ?_⟩, ?_, fun x c e => ?_, ?_, fun x c e => ?_, fun p hp => ?_, hok, I.len⟩
  · exact keep b o (neL b o e) hb (neC b o e hx) (I.base.keep b o e n hb hx) (I.base.free b o e n hx)
  · obtain ⟨sl, e1⟩ := I.base.slot b o e n hb hx
    obtain ⟨sl', e2⟩ := slot b _ (neL b o e) hb (neC b o e hx) e1 (I.base.free b o e n hx)
    exact ⟨sl', e2⟩
  · obtain ⟨o', e1⟩ := I.base.there b o e hx
    exact free b o' (neC b o e hx) e1 (I.base.free b o e n hx)
  · obtain ⟨o', e1⟩ := I.base.there b o e hx
    exact there b o' (neC b o e hx) e1
  · obtain ⟨m1, e1⟩ := I.base.tbls b ps e
    obtain ⟨m2, e2⟩ := tbls b _ e1
    exact ⟨m1 ++ m2, by rw [e2, Array.append_assoc]⟩
  · obtain ⟨m, hn, hl⟩ := I.loc
    refine ⟨m, ns m hn, fun i x v e1 e2 e3 => ?_⟩
    obtain ⟨u, r, l⟩ := hl i x v e1 e2 e3
    refine ⟨u, r, ?_⟩
    rcases l with l | ⟨k, c, e, z⟩
    · exact .inl l
    · exact .inr ⟨k, c, e, cellK x c e _ z⟩
  · obtain ⟨v, z⟩ := I.cell x c e
    exact ⟨v, cellK x c e v z⟩
  · obtain ⟨m, ⟨o, _, _, ho, _⟩, _⟩ := I.loc
    exact free _ o (fun z => (hch _ z).2.1 rfl) ho I.free
  · obtain ⟨v, o, ho, hd⟩ := I.cell x c e
    exact free c o (fun z => (hch c z).2.2.1 x c e rfl) ho (I.freeC x c e)
  · obtain ⟨e, n, ne, nf, d⟩ := I.pin p hp
    have nch : p.1 ∉ ch := fun z => (hch p.1 z).2.2.2 p hp rfl
    exact ⟨keep p.1 p.2 ne nf nch e n, free p.1 p.2 nch e n, ne, nf, d⟩
theorem Inv.un {t' : Nat} (I : Inv X pins σ H s) (u : Un X.fs [] H H' s.heap h') (hok : HOk X.prog X.w H' h') : Inv X pins σ H' { s with heap := h', toks := t' } := by
  obtain ⟨m, ⟨o, es, ep, ho, r⟩, _⟩ := id I.loc
  obtain ⟨sl, hL⟩ := u.any ho I.free (by simp)
  exact I.step (g' := s.gens) (d' := s.drawn) (ch := []) (fun _ z => nomatch z) (fun b o _ hb _ e n => u.keep b o e n hb (by simp)) (fun b o _ hb _ e n => u.slot b o e n hb (by simp)) (fun b o _ e n => u.free b o e n (by simp)) (fun b o _ e => u.there b o e (by simp)) u.tups u.frzs u.tbls (fun m' hm => by
    obtain ⟨o', es', ep', ho', r'⟩ := hm
    rw [ho] at ho'; cases ho'
    exact ⟨_, es', ep', hL, r'⟩) hok I.bare
theorem Inv.call {g' : Array GenState} {t' : Nat} {d' : Drawn} {ch : List Addr} (I : Inv X pins σ H s) (u : Un (frs X.stack) ch H H' s.heap h') (hok : HOk X.prog X.w H' h') (hg : AllBare g')
    (hch : ∀ b ∈ ch, (b ∈ X.ex ∨ X.s₀.heap.objs.size ≤ b) ∧ b ≠ X.env.locals ∧ (∀ x c, X.env.cells.lookup x = some c → c ≠ b) ∧ ∀ p ∈ X.pn ++ pins, p.1 ≠ b) :
    Inv X pins σ H' { s with heap := h', gens := g', drawn := d', toks := t' } := by
  obtain ⟨m, ⟨o, es, ep, ho, r⟩, _⟩ := id I.loc
  obtain ⟨sl, hL⟩ := u.any ho I.free fun z => (hch _ z).2.1 rfl
  exact I.step (ch := ch) hch (fun b o hL hb hc e n => u.keep b o e n (fun z => (List.mem_cons.mp (I.stkSub b z)).elim hL hb) hc) (fun b o _ _ hc e n => u.any e n hc) (fun b o hc e n => u.free b o e n hc) (fun b o hc e => u.there b o e hc) u.tups u.frzs u.tbls (fun m' hm => by
    obtain ⟨o', es', ep', ho', r'⟩ := hm
    rw [ho] at ho'; cases ho'
    exact ⟨_, es', ep', hL, r'⟩) hok hg
theorem Inv.turned {t' : Nat} {it : Addr} (I : Inv X pins σ H s) (k : ∀ b o, b ≠ it → s.heap.get? b = some o → h'.get? b = some o) (hn : H it = none) (hL : it ≠ X.env.locals)
    (h1 : it ∈ X.ex ∨ X.s₀.heap.objs.size ≤ it) (h2 : ∀ x c, X.env.cells.lookup x = some c → c ≠ it) (h3 : ∀ p ∈ X.pn ++ pins, p.1 ≠ it) : Inv X pins σ H { s with heap := h', toks := t' } := by
  have nit : ∀ b u, H b = some u → b ≠ it := fun b u e z => by rw [z, hn] at e; cases e
  refine I.step (g' := s.gens) (d' := s.drawn) (ch := [it]) (fun b hb => ?_) (fun b o _ _ hc e _ => k b o (fun z => hc (by simp [z])) e) (fun b o _ _ hc e _ => ⟨o.slots, k b o (fun z => hc (by simp [z])) e⟩) (fun _ _ _ _ n => n)
    (fun b o hc e => ⟨o, k b o (fun z => hc (by simp [z])) e⟩) (fun _ _ e => e) (fun _ _ _ e => e) (fun b ps e => ⟨#[], by rw [e]; simp⟩) (fun m hm => ?_) (fun b u e => ?_) I.bare
  · have e : b = it := by simpa using hb
    subst e
    exact ⟨h1, hL, h2, h3⟩
  · obtain ⟨o, es, ep, ho, r⟩ := hm
    exact ⟨o, es, ep, k _ o (Ne.symm hL) ho, r⟩
  · refine (I.hok b u e).stay (fun c v hc q => k c v ?_ q) (fun _ q => q) fun _ _ q => q
    rcases hc with z | z
    · rw [z]; exact nit b u e
    · exact nit c _ z
theorem Inv.tok (I : Inv X pins σ H s) (t : Nat) : Inv X pins σ H { s with toks := t } := I.un (h' := s.heap) (t' := t) Un.refl I.hok
theorem Inv.kept {t' : Nat} (I : Inv X pins σ H s) (k : ∀ b u, s.heap.get? b = some u → h'.get? b = some u) : Inv X pins σ H { s with heap := h', toks := t' } := I.un (Un.kept k) (I.hok.kept k)
theorem Inv.laid {a : Addr} {o : HO} {t' : Nat} (I : Inv X pins σ H s) (k : ∀ b u, s.heap.get? b = some u → h'.get? b = some u) (hp : s.heap.objs.size ≤ a) (new : ObjOk X.prog X.w (upd H a o) h' a o) :
    Inv X pins σ (upd H a o) { s with heap := h', toks := t' } := I.un (Un.laid k hp (I.hok.fresh hp)) (I.hok.laid k hp new)
theorem Inv.write {x e : Addr} {o : HO} {t' : Nat} (I : Inv X pins σ H s) (mu : Mut (H x)) (he : e = x ∨ H e = some (.own x)) (k : ∀ b u, b ≠ e → s.heap.get? b = some u → h'.get? b = some u) (heo : ∃ u, h'.get? e = some u)
    (new : ObjOk X.prog X.w (upd H x o) h' x o) : Inv X pins σ (upd H x o) { s with heap := h', toks := t' } := I.un (Un.write mu he k heo) (I.hok.write mu he k heo new)
theorem Inv.pins_of {pins' : List (Addr × Obj)} (I : Inv X pins σ H s) (h : ∀ p ∈ pins', s.heap.get? p.1 = some p.2 ∧ H p.1 = none ∧ p.1 ≠ X.env.locals ∧ p.1 ∉ X.fs ∧ ∀ v, p.2.data ≠ .cell v) : Inv X pins' σ H s :=
  ⟨I.ok, I.os, I.bare, I.base, I.loc, I.cell, I.free, I.freeC, fun p hp => (List.mem_append.mp hp).elim (fun z => I.pin p (List.mem_append_left _ z)) (h p), I.hok, I.len⟩
theorem nodup_ix {N : List Str} (hN : N.Nodup) {i j : Nat} {x : Str} (a : N[i]? = some x) (b : N[j]? = some x) : i = j := by
  obtain ⟨h1, e1⟩ := List.getElem?_eq_some_iff.mp a
  obtain ⟨h2, e2⟩ := List.getElem?_eq_some_iff.mp b
  exact (List.getElem_inj hN).mp (e1.trans e2.symm)
theorem store_ok2 {M : Model} {A : Around} {E : Value → Shared → Prop} {i : Nat} {x : Str} {v : V} {u : Value} {Q : Unit → Shared → Prop} (I : Inv X pins σ H s) (hN : X.N.Nodup) (hi : X.N[i]? = some x) (hx : Loc X.env.scope x) (r : RelV v u)
    (h : ∀ s', Inv X pins (σ.set i (some v)) H s' → (∃ a, Heap.SameBut a s.heap s'.heap ∧ (a = X.env.locals ∨ X.env.cells.lookup x = some a)) → Q () s') (hf : X.fn x = true ∨ X.env.scope.names.lookup x = some .local := by first | exact .inl rfl | exact .inr rfl | assumption) : wpAny M A (storeName X.env x u) Q E s := by
  obtain ⟨m, hn, hl⟩ := id I.loc
  have hcls : (X.env.scope.kind == .class || (X.env.scope.kind == .module && X.env.locals != X.env.globals)) = false := by rw [I.ok.kind]; rfl
  have hiσ : i < σ.length := by rw [I.len]; exact (List.getElem?_eq_some_iff.mp hi).1
  have cne := I.cne
  have tracked : ∀ {a : Addr} {h' : Heap}, (∃ o, s.heap.get? a = some o ∧ H a = none) → Heap.SameBut a s.heap h' → HOk X.prog X.w H h' := fun {a h'} ha hs b ob e => by
    obtain ⟨_, _, hfree⟩ := ha
    refine (I.hok b ob e).stay (fun c w' hc q => (hs.2 c ?_).trans q) (fun _ q => q) fun _ _ q => q
    rintro rfl
    rcases hc with rfl | hc
    · rw [hfree] at e; cases e
    · rw [hfree] at hc; cases hc
  rcases hx with hk | hk
  · refine wpAny_storeName_local hk hn (fun h' hn' hs => ?_) hcls
    obtain ⟨oL, _, _, hoL, _⟩ := id hn
    refine h _ ⟨I.ok, I.os, I.bare, ⟨fun b o e n hb hx => ?_, fun b o e n hb hx => ?_, I.base.free, fun b o e hx => ?_, I.base.tups, I.base.frzs, I.base.tbls⟩, ⟨_, hn', fun j y v' e1 e2 e3 => ?_⟩, fun y c e => ?_, I.free, I.freeC, fun p hp => ?_, tracked ⟨oL, hoL, I.free⟩ hs, by simpa using I.len⟩ ⟨_, hs, .inl rfl⟩
    · exact (hs.2 b (Nat.ne_of_lt (Nat.lt_of_lt_of_le (Heap.lt_size e) I.ok.above))).trans (I.base.keep b o e n hb hx)
    · obtain ⟨sl, e1⟩ := I.base.slot b o e n hb hx
      exact ⟨sl, (hs.2 b (Nat.ne_of_lt (Nat.lt_of_lt_of_le (Heap.lt_size e) I.ok.above))).trans e1⟩
    · obtain ⟨o', e1⟩ := I.base.there b o e hx
      exact ⟨o', (hs.2 b (Nat.ne_of_lt (Nat.lt_of_lt_of_le (Heap.lt_size e) I.ok.above))).trans e1⟩
    · by_cases hj : j = i
      · subst hj
        rw [hi] at e1; cases e1
        rw [List.getElem?_set_self hiσ] at e2
        cases e2
        exact ⟨u, r, .inl ⟨hk, by simp⟩⟩
      · rw [List.getElem?_set_ne (Ne.symm hj)] at e2
        obtain ⟨u', r', q⟩ := hl j y v' e1 e2 e3
        refine ⟨u', r', ?_⟩
        rcases q with ⟨k, e⟩ | ⟨k, c, e, z⟩
        · refine .inl ⟨k, ?_⟩
          have : y ≠ x := fun e => hj (nodup_ix hN e1 (e ▸ hi))
          simp [this, e]
        · exact .inr ⟨k, c, e, z.sameBut hs (cne y c e)⟩
    · obtain ⟨w', z⟩ := I.cell y c e
      exact ⟨w', z.sameBut hs (cne y c e)⟩
    · obtain ⟨e, n, ne, nf, d⟩ := I.pin p hp
      exact ⟨(hs.2 p.1 ne).trans e, n, ne, nf, d⟩
  · have hfn : X.fn x = true := by
      rcases hf with z | z
      · exact z
      · rw [z] at hk; cases hk
    obtain ⟨c, hc⟩ := I.ok.has x (.inl hk)
    obtain ⟨w', z⟩ := I.cell x c hc
    refine wpAny_storeName_cell I.ok.kind hk hc z (fun h' hc' hs => ?_)
    obtain ⟨oc, hoc, hocd⟩ := id z
    refine h { s with heap := h' } ⟨I.ok, I.os, I.bare, ⟨fun b o e n hb hx => ?_, fun b o e n hb hx => ?_, I.base.free, fun b o e hx => ?_, I.base.tups, I.base.frzs, I.base.tbls⟩, ⟨m, hn.sameBut hs (Ne.symm (cne x c hc)), fun j y v' e1 e2 e3 => ?_⟩, fun y c' e => ?_, I.free, I.freeC, fun p hp => ?_, tracked ⟨oc, hoc, I.freeC x c hc⟩ hs, by simpa using I.len⟩ ⟨c, hs, .inr hc⟩
    · exact (hs.2 b (Nat.ne_of_lt (Nat.lt_of_lt_of_le (Heap.lt_size e) (I.ok.cab x c hfn hc)))).trans (I.base.keep b o e n hb hx)
    · obtain ⟨sl, e1⟩ := I.base.slot b o e n hb hx
      exact ⟨sl, (hs.2 b (Nat.ne_of_lt (Nat.lt_of_lt_of_le (Heap.lt_size e) (I.ok.cab x c hfn hc)))).trans e1⟩
    · obtain ⟨o', e1⟩ := I.base.there b o e hx
      exact ⟨o', (hs.2 b (Nat.ne_of_lt (Nat.lt_of_lt_of_le (Heap.lt_size e) (I.ok.cab x c hfn hc)))).trans e1⟩
    · by_cases hj : j = i
      · subst hj
        rw [hi] at e1; cases e1
        rw [List.getElem?_set_self hiσ] at e2
        cases e2
        exact ⟨u, r, .inr ⟨.inl hk, c, hc, hc'⟩⟩
      · rw [List.getElem?_set_ne (Ne.symm hj)] at e2
        obtain ⟨u', r', q⟩ := hl j y v' e1 e2 e3
        refine ⟨u', r', ?_⟩
        rcases q with q | ⟨k, c', e, z'⟩
        · exact .inl q
        · refine .inr ⟨k, c', e, z'.sameBut hs ?_⟩
          rintro rfl
          exact hj (nodup_ix hN e1 (I.ok.inj _ _ _ e hc ▸ hi))
    · by_cases hcc : c' = c
      · subst hcc; exact ⟨_, hc'⟩
      · obtain ⟨w2, z2⟩ := I.cell y c' e
        exact ⟨w2, z2.sameBut hs hcc⟩
    · obtain ⟨e, n, ne, nf, d⟩ := I.pin p hp
      refine ⟨(hs.2 p.1 ?_).trans e, n, ne, nf, d⟩
      intro q
      rw [q, hoc] at e
      have q' : oc = p.2 := Option.some.inj e
      exact d w' (by rw [← q']; exact hocd)
theorem store_ok {M : Model} {A : Around} {E : Value → Shared → Prop} {i : Nat} {x : Str} {v : V} {u : Value} {Q : Unit → Shared → Prop} (I : Inv X pins σ H s) (hN : X.N.Nodup) (hi : X.N[i]? = some x) (hx : Loc X.env.scope x) (r : RelV v u)
    (h : ∀ s', Inv X pins (σ.set i (some v)) H s' → Q () s') (hf : X.fn x = true ∨ X.env.scope.names.lookup x = some .local := by first | exact .inl rfl | exact .inr rfl | assumption) : wpAny M A (storeName X.env x u) Q E s :=
  store_ok2 I hN hi hx r (fun s' I' _ => h s' I') hf
theorem Inv.call' {s' : Shared} {ch : List Addr} (I : Inv X pins σ H s) (ho : s'.os = s.os) (u : Un (frs X.stack) ch H H' s.heap s'.heap) (hok : HOk X.prog X.w H' s'.heap) (hg : AllBare s'.gens)
    (hch : ∀ b ∈ ch, (b ∈ X.ex ∨ X.s₀.heap.objs.size ≤ b) ∧ b ≠ X.env.locals ∧ (∀ x c, X.env.cells.lookup x = some c → c ≠ b) ∧ ∀ p ∈ X.pn ++ pins, p.1 ≠ b) : Inv X pins σ H' s' := by
  obtain ⟨h', g', d', t', o'⟩ := s'
  have e : o' = s.os := ho
  subst e
  exact I.call (g' := g') (t' := t') (d' := d') u hok hg hch
end
noncomputable abbrev XK := Value → Option Addr → Hp → Prop
noncomputable abbrev St := List (Option V)
noncomputable abbrev VK := V → Hp → Prop
noncomputable abbrev TE := St → Hp → VK → Prop
noncomputable abbrev TT := St → Hp → (Bool → Hp → Prop) → Prop
noncomputable abbrev TA := St → Hp → (List V → Hp → Prop) → Prop
structure Ends where
  nx : St → Hp → Prop
  rt : VK
  bk : St → Hp → Prop := fun _ _ => False
  ct : St → Hp → Prop := fun _ _ => False
noncomputable abbrev TS := Ends → St → Hp → Prop
noncomputable def EP (X : Cx) (pins : List (Addr × Obj)) (σ : St) (Q : VK) (u : Value) (s' : Shared) : Prop := ∃ v H', Inv X pins σ H' s' ∧ RelV v u ∧ Q v H'
noncomputable def TP (X : Cx) (pins : List (Addr × Obj)) (σ : St) (Q : Bool → Hp → Prop) (b : Bool) (s' : Shared) : Prop := ∃ H', Inv X pins σ H' s' ∧ Q b H'
noncomputable def AP (X : Cx) (pins : List (Addr × Obj)) (σ : St) (Q : List V → Hp → Prop) (us : List Value) (s' : Shared) : Prop := ∃ vs H', Inv X pins σ H' s' ∧ Vals vs us ∧ Q vs H'
noncomputable def SP (X : Cx) (pins : List (Addr × Obj)) (D : Ends) (f : Flow) (s' : Shared) : Prop :=
  match f with
  | .next => ∃ σ' H', Inv X pins σ' H' s' ∧ D.nx σ' H'
  | .brk => ∃ σ' H', Inv X pins σ' H' s' ∧ D.bk σ' H'
  | .cont => ∃ σ' H', Inv X pins σ' H' s' ∧ D.ct σ' H'
  | .ret u => ∃ v σ' H', Inv X pins σ' H' s' ∧ RelV v u ∧ D.rt v H'
noncomputable def PE (X : Cx) (e : Expr) (t : TE) : Prop :=
  ∀ (pins : List (Addr × Obj)) (s : Shared) (σ : St) (H : Hp) (Q : VK), Inv X pins σ H s → t σ H Q → wpAny (model X.prog X.w) X.A (eval e X.env) (EP X pins σ Q) X.xe s
noncomputable def PT (X : Cx) (e : Expr) (t : TT) : Prop :=
  ∀ (pins : List (Addr × Obj)) (s : Shared) (σ : St) (H : Hp) (Q : Bool → Hp → Prop), Inv X pins σ H s → t σ H Q → wpAny (model X.prog X.w) X.A (isTrue e X.env (eval e X.env)) (TP X pins σ Q) X.xe s
noncomputable def PW (X : Cx) (e : Expr) (t : TT) : Prop :=
  ∀ (whole : Sem Value) (pins : List (Addr × Obj)) (s : Shared) (σ : St) (H : Hp) (Q : Bool → Hp → Prop), Inv X pins σ H s → t σ H Q → wpAny (model X.prog X.w) X.A (isTrue e X.env whole) (TP X pins σ Q) X.xe s
theorem PW.pt {X : Cx} {e : Expr} {t : TT} (h : PW X e t) : PT X e t := h _
noncomputable def PA (X : Cx) (es : List Expr) (t : TA) : Prop :=
  ∀ (pos : Pos) (pins : List (Addr × Obj)) (s : Shared) (σ : St) (H : Hp) (Q : List V → Hp → Prop), Inv X pins σ H s → t σ H Q → wpAny (model X.prog X.w) X.A (spliced (backTo pos (starEach es X.env))) (AP X pins σ Q) X.xe s
noncomputable def PS (X : Cx) (st : Stmt) (t : TS) : Prop :=
  ∀ (pins : List (Addr × Obj)) (s : Shared) (σ : St) (H : Hp) (D : Ends), Inv X pins σ H s → t D σ H → wpAny (model X.prog X.w) X.A (exec st X.env) (SP X pins D) X.xe s
noncomputable def PSs (X : Cx) (st : List Stmt) (t : TS) : Prop :=
  ∀ (pins : List (Addr × Obj)) (s : Shared) (σ : St) (H : Hp) (D : Ends), Inv X pins σ H s → t D σ H → wpAny (model X.prog X.w) X.A (execs st X.env) (SP X pins D) X.xe s
theorem thn {α : Type} {t : Sem α} {Q Q' : α → Shared → Prop} {M : Model} {A : Around} {E : Value → Shared → Prop} {s : Shared} (h : wpAny M A t Q E s) (hQ : ∀ a s, Q a s → Q' a s) : wpAny M A t Q' E s := wpAny_mono h hQ fun _ _ x => x
end L2
namespace L2
open PySem PySem.Spec PyProof.Rows
section
variable {X : Cx}
noncomputable def tVar (i : Nat) : TE := fun σ H Q => ∃ v, σ[i]? = some (some v) ∧ Q v H
noncomputable def tC (v : V) : TE := fun _ H Q => Q v H
theorem pe_var {i : Nat} {x : Str} {pos : Pos} (hN : X.N[i]? = some x) (hv : Vis X.env.scope x) (hd : (x == ("__debug__" : Str)) = false := by decide) (hcd : (x == ("__classdict__" : Str)) = false := by decide) : PE X (.Name x pos) (tVar i) := by
  intro pins s σ H Q I h
  obtain ⟨v, e, h⟩ := h
  obtain ⟨m, hn, hl⟩ := I.loc
  obtain ⟨u, r, l⟩ := hl i x v hN e hv
  have fin : EP X pins σ Q u s := ⟨v, H, I, r, h⟩
  rcases l with ⟨hk, hm⟩ | ⟨hk, c, hc, hcell⟩
  · exact wpAny_Name (wpAny_loadName_local I.ok.kind hk hn hm fin) hd
  · rcases hk with hk | hk
    · exact wpAny_Name (wpAny_loadName_cell I.ok.kind hk hc hcell fin) hd
    · exact wpAny_Name (wpAny_loadName_free I.ok.kind hk hc hcell fin hcd) hd
theorem pe_int {i j pos} : PE X (.Constant (.int i) j pos) (tC (.int i)) := fun _ _ _ H _ I h => wpAny_Constant_int ⟨.int i, H, I.tok _, ⟨_, rfl⟩, h⟩
theorem pe_bl {b j pos} : PE X (.Constant (.bool b) j pos) (tC (.bl b)) := fun _ _ _ H _ I h => Constant_bool ⟨.bl b, H, I, rfl, h⟩
theorem pe_non {j pos} : PE X (.Constant .none j pos) (tC .non) := fun _ _ _ H _ I h => Constant_none ⟨.non, H, I, rfl, h⟩
theorem pe_str {x j pos} : PE X (.Constant (.str x) j pos) (tC (.str x)) := fun _ _ _ H _ I h => Calls.Constant_str ⟨.str x, H, I.tok _, ⟨_, rfl⟩, h⟩
noncomputable def Gl (X : Cx) (x : Str) : Prop := X.env.kindOf x = some .globalImplicit
theorem ld_glob {E : Value → Shared → Prop} {pins : List (Addr × Obj)} {s : Shared} {σ : St} {H : Hp} {x : Str} {u : Value} {pos : Pos} {Q : Value → Shared → Prop} (I : Inv X pins σ H s) (hg : Gl X x) (hm : X.mg x = some u) (h : Q u s)
    (hd : (x == ("__debug__" : Str)) = false := by decide) : wpAny (model X.prog X.w) X.A (eval (.Name x pos) X.env) Q E s :=
  Calls.Name_function_global I.ok.kind hg (Calls.loadGlobal_global (by rw [I.ok.glob]; exact I.mod.glob.keeps I.bk) hm h) hd
theorem ld_blt {E : Value → Shared → Prop} {pins : List (Addr × Obj)} {s : Shared} {σ : St} {H : Hp} {x : Str} {u : Value} {pos : Pos} {Q : Value → Shared → Prop} (I : Inv X pins σ H s) (hg : Gl X x) (hm : X.mg x = none) (hv : bootBuiltins x = some u) (h : Q u s)
    (hn : x ≠ "__name__" := by decide) (hd : (x == ("__debug__" : Str)) = false := by decide) : wpAny (model X.prog X.w) X.A (eval (.Name x pos) X.env) Q E s := by
  obtain ⟨mb, h1, h2⟩ := I.mod.blt
  exact Calls.Name_function_global I.ok.kind hg (Calls.loadGlobal_builtin (by rw [I.ok.glob]; exact I.mod.glob.keeps I.bk) hm (by rw [I.ok.blt]; exact h1.keeps I.bk) ((h2 x hn).trans hv) h) hd
theorem pe_glob {x : Str} {v : V} {u : Value} {pos : Pos} (hg : Gl X x) (hm : X.mg x = some u) (r : RelV v u) (hd : (x == ("__debug__" : Str)) = false := by decide) : PE X (.Name x pos) (tC v) :=
  fun _ _ _ H _ I h => ld_glob I hg hm ⟨v, H, I, r, h⟩ hd
theorem pe_bltn {x : Str} {v : V} {u : Value} {pos : Pos} (hg : Gl X x) (hm : X.mg x = none) (hv : bootBuiltins x = some u) (r : RelV v u) (hn : x ≠ "__name__" := by decide) (hd : (x == ("__debug__" : Str)) = false := by decide) : PE X (.Name x pos) (tC v) :=
  fun _ _ _ H _ I h => ld_blt I hg hm hv ⟨v, H, I, r, h⟩ hn hd
variable {a b : Expr} {ta tb : TE} {pos : Pos}
noncomputable def tB (t : TE) : TT := fun σ H Q => t σ H fun x H1 => ∃ c, x = .bl c ∧ Q c H1
theorem pt_val {e : Expr} {t : TE} (h : PE X e t) (he : ∀ whole, isTrue e X.env whole = (do let v ← whole; standAt e.pos; holding [v] (truthy v)) := by intro _; rfl) : PT X e (tB t) := by
  intro pins s σ H Q I hw
  refine isTrue_plain (thn (h pins s σ H _ I hw) fun v s1 ⟨x, H1, I1, r1, q1⟩ => ?_) (he _)
  obtain ⟨d, rfl, q⟩ := q1
  cases r1
  exact wpAny_truthy_bool ⟨H1, I1, q⟩
variable {tA tB' : TT} {rest : List Expr}
noncomputable def tAnd (t u : TT) : TT := fun σ H Q => t σ H fun c H1 => if c = true then u σ H1 Q else Q false H1
noncomputable def tOr (t u : TT) : TT := fun σ H Q => t σ H fun c H1 => if c = true then Q true H1 else u σ H1 Q
noncomputable def tNot (t : TT) : TT := fun σ H Q => t σ H fun c H1 => Q (!c) H1
theorem pw_and1 (ha : PT X a tA) : PW X (.BoolOp .And [a] pos) tA := by
  intro wh pins s σ H Q I h
  refine isTrue_and (thn (ha pins s σ H Q I h) fun c s1 e => ?_)
  cases c with
  | true => exact isTrue_and_nil e
  | false => exact e
theorem pw_or1 (ha : PT X a tA) : PW X (.BoolOp .Or [a] pos) tA := by
  intro wh pins s σ H Q I h
  refine isTrue_or (thn (ha pins s σ H Q I h) fun c s1 e => ?_)
  cases c with
  | false => exact isTrue_or_nil e
  | true => exact e
theorem pw_and (ha : PT X a tA) (hb : PW X (.BoolOp .And (b :: rest) pos) tB') : PW X (.BoolOp .And (a :: b :: rest) pos) (tAnd tA tB') := by
  intro wh pins s σ H Q I h
  refine isTrue_and (thn (ha pins s σ H _ I h) fun c s1 ⟨H1, I1, q1⟩ => ?_)
  cases c with
  | true => exact hb wh pins s1 σ H1 Q I1 q1
  | false => exact ⟨H1, I1, q1⟩
theorem pw_or (ha : PT X a tA) (hb : PW X (.BoolOp .Or (b :: rest) pos) tB') : PW X (.BoolOp .Or (a :: b :: rest) pos) (tOr tA tB') := by
  intro wh pins s σ H Q I h
  refine isTrue_or (thn (ha pins s σ H _ I h) fun c s1 ⟨H1, I1, q1⟩ => ?_)
  cases c with
  | true => exact ⟨H1, I1, q1⟩
  | false => exact hb wh pins s1 σ H1 Q I1 q1
theorem pt_not (ha : PT X a tA) : PT X (.UnaryOp .Not a pos) (tNot tA) := by
  intro pins s σ H Q I h
  exact isTrue_not (ha pins s σ H (fun c H1 => Q (!c) H1) I h)
noncomputable def tAndV (ta tb : TE) : TE := fun σ H Q => ta σ H fun x H1 => ∃ c, x = .bl c ∧ if c = true then tb σ H1 Q else Q (.bl false) H1
noncomputable def tOrV (ta tb : TE) : TE := fun σ H Q => ta σ H fun x H1 => ∃ c, x = .bl c ∧ if c = true then Q (.bl true) H1 else tb σ H1 Q
noncomputable def tNotV (ta : TE) : TE := fun σ H Q => ta σ H fun x H1 => ∃ c, x = .bl c ∧ Q (.bl (!c)) H1
theorem pe_one {op} {t : TE} (h : PE X a t) : PE X (.BoolOp op [a] pos) t := fun pins s σ H Q I hw => BoolOp_one (h pins s σ H Q I hw)
theorem pe_and (ha : PE X a ta) (hb : PE X (.BoolOp .And (b :: rest) pos) tb) : PE X (.BoolOp .And (a :: b :: rest) pos) (tAndV ta tb) := by
  intro pins s σ H Q I h
  refine BoolOp_and (thn (ha pins s σ H _ I h) fun v s1 ⟨x, H1, I1, r1, q1⟩ => ?_)
  obtain ⟨c, rfl, q1⟩ := q1
  cases r1
  refine wpAny_truthy_bool ?_
  cases c with
  | true => exact hb pins s1 σ H1 Q I1 q1
  | false => exact ⟨.bl false, H1, I1, rfl, q1⟩
theorem pe_or (ha : PE X a ta) (hb : PE X (.BoolOp .Or (b :: rest) pos) tb) : PE X (.BoolOp .Or (a :: b :: rest) pos) (tOrV ta tb) := by
  intro pins s σ H Q I h
  refine BoolOp_or (thn (ha pins s σ H _ I h) fun v s1 ⟨x, H1, I1, r1, q1⟩ => ?_)
  obtain ⟨c, rfl, q1⟩ := q1
  cases r1
  refine wpAny_truthy_bool ?_
  cases c with
  | false => exact hb pins s1 σ H1 Q I1 q1
  | true => exact ⟨.bl true, H1, I1, rfl, q1⟩
theorem pe_not (ha : PE X a ta) : PE X (.UnaryOp .Not a pos) (tNotV ta) := by
  intro pins s σ H Q I h
  refine UnaryOp_ (thn (ha pins s σ H _ I h) fun v s1 ⟨x, H1, I1, r1, q1⟩ => ?_)
  obtain ⟨c, rfl, q1⟩ := q1
  cases r1
  exact not_of (wpAny_truthy_bool ⟨.bl (!c), H1, I1, rfl, q1⟩)
noncomputable def tIf (t : TT) (ta tb : TE) : TE := fun σ H Q => t σ H fun c H1 => if c = true then ta σ H1 Q else tb σ H1 Q
theorem pe_ifExp {c : Expr} (hc : PT X c tA) (ha : PE X a ta) (hb : PE X b tb) : PE X (.IfExp c a b pos) (tIf tA ta tb) := by
  intro pins s σ H Q I h
  refine wpAny_IfExp (thn (hc pins s σ H _ I h) fun d s1 ⟨H1, I1, q1⟩ => ?_)
  cases d with
  | true => exact ha pins s1 σ H1 Q I1 q1
  | false => exact hb pins s1 σ H1 Q I1 q1
end
end L2
namespace L2
open PySem PySem.Spec PyProof.Rows
noncomputable def SqL (K : PySem.W.Frag) (H : Hp) (a : Addr) (xs : List V) : Prop :=
  Rd H a (.lst xs) ∨
    ∃ (o : Obj) (its : Array Value) (n : Nat), K.lookup a = some o ∧ o.cls = .type "list" ∧ o.dict = none ∧ o.data = .seq its n ∧ its.size ≤ sizeLine ∧ Vals xs its.toList
noncomputable def SqT (K : PySem.W.Frag) (H : Hp) (a : Addr) (xs : List V) : Prop :=
  Rd H a (.tup xs) ∨
    ∃ (o : Obj) (its : Array Value) (n : Nat), K.lookup a = some o ∧ o.cls = .type "tuple" ∧ o.data = .seq its n ∧ its.size ≤ sizeLine ∧ Vals xs its.toList
noncomputable def absV : Value → Option V
  | .none => some .non
  | .bool b => some (.bl b)
  | .int i _ => some (.int i)
  | .str x _ => some (.str x)
  | .bytes b _ => some (.byt b)
  | .float b _ => some (.flt b)
  | .ref a => some (.ref a)
  | .type n => some (.ty n)
  | _ => none
theorem RelV.abs {x : V} {u : Value} (r : RelV x u) : absV u = some x := by
  cases x with
  | non => cases r; rfl
  | bl _ => cases r; rfl
  | int _ => obtain ⟨t, rfl⟩ := r; rfl
  | str _ => obtain ⟨t, rfl⟩ := r; rfl
  | byt _ => obtain ⟨t, rfl⟩ := r; rfl
  | flt _ => obtain ⟨t, rfl⟩ := r; rfl
  | ref _ => cases r; rfl
  | ty _ => cases r; rfl
theorem RelV.inj {x y : V} {u : Value} (r : RelV x u) (q : RelV y u) : x = y := Option.some.inj (r.abs.symm.trans q.abs)
theorem Vals.inj : ∀ {xs ys : List V} {us : List Value}, Vals xs us → Vals ys us → xs = ys
  | _, _, _, .nil, .nil => rfl
  | _, _, _, .cons r t, .cons r' t' => by rw [r.inj r', Vals.inj t t']
section
variable {X : Cx} {pins : List (Addr × Obj)} {σ : St} {H : Hp} {s : Shared} {a : Addr} {xs ys : List V}
theorem SqL.of {K : PySem.W.Frag} (h : H a = some (.lst xs)) : SqL K H a xs := .inl (.inl h)
theorem SqT.of {K : PySem.W.Frag} (h : H a = some (.tup xs)) : SqT K H a xs := .inl (.inl h)
theorem Inv.list (I : Inv X pins σ H s) (h : SqL X.K H a xs) : ∃ its : List Value, Vals xs its ∧ PlainL s.heap a its.toArray ∧ xs.length ≤ sizeLine := by
  rcases h with h | ⟨o, its, n, hk, hc, hd, hs, hz, r⟩
  · obtain ⟨z, its, n, r, e⟩ := h.ok I.hok
    exact ⟨its, r, ⟨_, n, e, rfl, rfl, rfl⟩, z⟩
  · refine ⟨its.toList, r, ⟨o, n, I.kIn a o hk, hc, hd, by simpa using hs⟩, ?_⟩
    have e := r.length
    simp only [Array.length_toList] at e
    omega
theorem Inv.tuple (I : Inv X pins σ H s) (h : SqT X.K H a xs) : ∃ its : List Value, Vals xs its ∧ IsTup s.heap a its.toArray ∧ xs.length ≤ sizeLine := by
  rcases h with h | ⟨o, its, n, hk, hc, hs, hz, r⟩
  · obtain ⟨z, its, r, p⟩ := h.ok I.hok
    exact ⟨its, r, p, z⟩
  · refine ⟨its.toList, r, ⟨o, I.kIn a o hk, hc, n, by simpa using hs⟩, ?_⟩
    have e := r.length
    simp only [Array.length_toList] at e
    omega
theorem Inv.list_inj (I : Inv X pins σ H s) (h : SqL X.K H a xs) (h' : SqL X.K H a ys) : xs = ys := by
  obtain ⟨its, r, ⟨o, n, e, _, _, d⟩, _⟩ := I.list h
  obtain ⟨its', r', ⟨o', n', e', _, _, d'⟩, _⟩ := I.list h'
  rw [e] at e'; cases e'
  rw [d] at d'
  injection d' with d1 _
  have : its = its' := by simpa using congrArg Array.toList d1
  subst this
  exact r.inj r'
theorem Inv.tuple_inj (I : Inv X pins σ H s) (h : SqT X.K H a xs) (h' : SqT X.K H a ys) : xs = ys := by
  obtain ⟨its, r, ⟨o, e, _, n, d⟩, _⟩ := I.tuple h
  obtain ⟨its', r', ⟨o', e', _, n', d'⟩, _⟩ := I.tuple h'
  rw [e] at e'; cases e'
  rw [d] at d'
  injection d' with d1 _
  have : its = its' := by simpa using congrArg Array.toList d1
  subst this
  exact r.inj r'
end
noncomputable abbrev Cx.wish (X : Cx) (E : Value → Shared → Prop) : Cx := { X with xe := E }
noncomputable abbrev Cx.nox (X : Cx) : Cx := X.wish fun _ _ => False
theorem Cx.Ok.wish {X : Cx} (ok : X.Ok) (E : Value → Shared → Prop) : (X.wish E).Ok :=
  ⟨ok.mod, ok.kind, ok.glob, ok.blt, ok.above, ok.inj, ok.has, ok.cab, ok.hd, ok.frames, ok.stk, ok.exf, ok.bs, ok.bsz, ok.noex, ok.exfs, ok.funs, ok.frf⟩
theorem Cx.Ok.unwish {X : Cx} {E : Value → Shared → Prop} (ok : (X.wish E).Ok) : X.Ok :=
  ⟨ok.mod, ok.kind, ok.glob, ok.blt, ok.above, ok.inj, ok.has, ok.cab, ok.hd, ok.frames, ok.stk, ok.exf, ok.bs, ok.bsz, ok.noex, ok.exfs, ok.funs, ok.frf⟩
section
variable {X : Cx} {pins : List (Addr × Obj)} {σ : St} {H : Hp} {s : Shared} {E : Value → Shared → Prop}
theorem Inv.wish (I : Inv X pins σ H s) (E : Value → Shared → Prop) : Inv (X.wish E) pins σ H s := ⟨I.ok.wish E, I.os, I.bare, I.base, I.loc, I.cell, I.free, I.freeC, I.pin, I.hok, I.len⟩
theorem Inv.unwish (I : Inv (X.wish E) pins σ H s) : Inv X pins σ H s := ⟨I.ok.unwish, I.os, I.bare, I.base, I.loc, I.cell, I.free, I.freeC, I.pin, I.hok, I.len⟩
theorem SP.unwish {D : Ends} {f : Flow} {s' : Shared} (h : SP (X.wish E) pins D f s') : SP X pins D f s' := by
  cases f with
  | next => obtain ⟨σ', H', I, q⟩ := h; exact ⟨σ', H', I.unwish, q⟩
  | brk => obtain ⟨σ', H', I, q⟩ := h; exact ⟨σ', H', I.unwish, q⟩
  | cont => obtain ⟨σ', H', I, q⟩ := h; exact ⟨σ', H', I.unwish, q⟩
  | ret u => obtain ⟨v, σ', H', I, r, q⟩ := h; exact ⟨v, σ', H', I.unwish, r, q⟩
theorem PE.nox {e : Expr} {t : TE} (h : PE X.nox e t) : PE X e t := fun pins s σ H Q I hw =>
  wpAny_mono (h pins s σ H Q (I.wish _) hw) (fun _ _ ⟨v, H', I', r, q⟩ => ⟨v, H', I'.unwish, r, q⟩) fun _ _ z => False.elim z
theorem PT.nox {e : Expr} {t : TT} (h : PT X.nox e t) : PT X e t := fun pins s σ H Q I hw =>
  wpAny_mono (h pins s σ H Q (I.wish _) hw) (fun _ _ ⟨H', I', q⟩ => ⟨H', I'.unwish, q⟩) fun _ _ z => False.elim z
theorem PSs.nox {st : List Stmt} {t : TS} (h : PSs X.nox st t) : PSs X st t := fun pins s σ H D I hw =>
  wpAny_mono (h pins s σ H D (I.wish _) hw) (fun _ _ q => q.unwish) fun _ _ z => False.elim z
end
section
variable {X : Cx} {st : Stmt} {rest : List Stmt} {t u : TS} {e : Expr} {te : TE} {pos : Pos}
noncomputable def tNext : TS := fun D σ H => D.nx σ H
noncomputable def tSeq (t u : TS) : TS := fun D σ H => t { D with nx := u D } σ H
theorem pss_nil : PSs X [] tNext := fun _ _ σ H _ I h => wpAny_execs_nil ⟨σ, H, I, h⟩
theorem pss_cons (h1 : PS X st t) (h2 : PSs X rest u) : PSs X (st :: rest) (tSeq t u) := by
  intro pins s σ H D I h
  refine wpAny_execs_cons (thn (h1 pins s σ H { D with nx := u D } I h) fun f s1 q => ?_)
  cases f with
  | next =>
    obtain ⟨σ', H', I', q⟩ := q
    exact h2 pins s1 σ' H' D I' q
  | ret v => exact q
  | brk => exact q
  | cont => exact q
theorem pss_one (h1 : PS X st t) : PSs X [st] t := by
  intro pins s σ H D I h
  refine wpAny_execs_cons (thn (h1 pins s σ H D I h) fun f s1 q => ?_)
  cases f with
  | next => exact wpAny_execs_nil q
  | ret v => exact q
  | brk => exact q
  | cont => exact q
theorem Inv.quiet {pins : List (Addr × Obj)} {σ : St} {H : Hp} {s : Shared} (I : Inv X pins σ H s) : interactive X.env = false := by simp [interactive, I.ok.kind]
noncomputable def tDrop (te : TE) : TS := fun D σ H => te σ H fun _ H1 => D.nx σ H1
theorem ps_expr (he : PE X e te) (hs : swapsWith e none pos.line X.env = pure false := by rfl) : PS X (.Expr e pos) (tDrop te) := by
  intro pins s σ H D I h
  exact wpAny_Expr_any (thn (he pins s σ H _ I h) fun v s1 ⟨x, H1, I1, r1, q1⟩ => ⟨σ, H1, I1, q1⟩) I.quiet hs
noncomputable def tRet (te : TE) : TS := fun D σ H => te σ H D.rt
theorem ps_ret (he : PE X e te) : PS X (.Return (some e) pos) (tRet te) := by
  intro pins s σ H D I h
  exact wpAny_Return_some (thn (he pins s σ H _ I h) fun v s1 ⟨x, H1, I1, r1, q1⟩ => ⟨x, σ, H1, I1, r1, q1⟩)
noncomputable def tIfS (c : TT) (t u : TS) : TS := fun D σ H => c σ H fun b H1 => if b = true then t D σ H1 else u D σ H1
theorem ps_if {c : Expr} {a b : List Stmt} {tc : TT} (hc : PT X c tc) (ha : PSs X a t) (hb : PSs X b u) : PS X (.If c a b pos) (tIfS tc t u) := by
  intro pins s σ H D I h
  refine wpAny_If (thn (hc pins s σ H _ I h) fun d s1 ⟨H1, I1, q1⟩ => ?_)
  cases d with
  | true => exact ha pins s1 σ H1 D I1 q1
  | false => exact hb pins s1 σ H1 D I1 q1
noncomputable def tNever : TS := fun _ _ _ => False
theorem ps_never : PS X st tNever := fun _ _ _ _ _ _ h => h.elim
end
noncomputable abbrev TG := V → St → Hp → (St → Hp → Prop) → Prop
noncomputable abbrev TGs := List V → St → Hp → (St → Hp → Prop) → Prop
noncomputable def PG (X : Cx) (target : Expr) (t : TG) : Prop :=
  ∀ (pins : List (Addr × Obj)) (s : Shared) (σ : St) (H : Hp) (v : V) (u : Value) (Q : St → Hp → Prop), Inv X pins σ H s → RelV v u → t v σ H Q →
    wpAny (model X.prog X.w) X.A (assign target X.env u) (fun _ s' => ∃ σ' H', Inv X pins σ' H' s' ∧ Q σ' H') X.xe s
noncomputable def PGs (X : Cx) (ts : List Expr) (t : TGs) : Prop :=
  ∀ (pins : List (Addr × Obj)) (s : Shared) (σ : St) (H : Hp) (vs : List V) (us : List Value) (Q : St → Hp → Prop), Inv X pins σ H s → Vals vs us → t vs σ H Q →
    wpAny (model X.prog X.w) X.A (assignInOrder ((assignEach ts X.env).map (·.2)) us) (fun _ s' => ∃ σ' H', Inv X pins σ' H' s' ∧ Q σ' H') X.xe s
noncomputable abbrev TSet := V → V → V → Hp → (Hp → Prop) → Prop
noncomputable def PSet (X : Cx) (t : TSet) : Prop :=
  ∀ (pins : List (Addr × Obj)) (s : Shared) (σ : St) (H : Hp) (o i v : V) (ov iv u : Value) (Q : Hp → Prop), Inv X pins σ H s → RelV o ov → RelV i iv → RelV v u → t o i v H Q →
    wpAny (model X.prog X.w) X.A (setItem ov iv u) (fun _ s' => ∃ H', Inv X pins σ H' s' ∧ Q H') X.xe s
section
variable {X : Cx} {pos : Pos}
noncomputable def gName (i : Nat) : TG := fun v σ H Q => Q (σ.set i (some v)) H
theorem pg_name {i : Nat} {x : Str} (hN : X.N.Nodup) (hi : X.N[i]? = some x) (hx : Loc X.env.scope x) (hf : X.fn x = true ∨ X.env.scope.names.lookup x = some .local := by first | exact .inl rfl | exact .inr rfl | assumption) : PG X (.Name x pos) (gName i) := by
  intro pins s σ H v u Q I r h
  exact wpAny_assign_Name (store_ok I hN hi hx r (fun s' I' => ⟨_, H, I', h⟩) hf)
noncomputable def gNil : TGs := fun vs σ H Q => vs = [] ∧ Q σ H
noncomputable def gCons (t : TG) (u : TGs) : TGs := fun vs σ H Q => ∃ v r, vs = v :: r ∧ t v σ H fun σ' H' => u r σ' H' Q
theorem pgs_nil : PGs X [] gNil := by
  intro pins s σ H vs us Q I r h
  obtain ⟨e, h⟩ := h
  subst e
  cases r
  exact assignInOrder_nil ⟨σ, H, I, h⟩
theorem pgs_cons {e : Expr} {es : List Expr} {t : TG} {u : TGs} (h1 : PG X e t) (h2 : PGs X es u)
    (hs : (assignEach (e :: es) X.env).map (·.2) = assign e X.env :: (assignEach es X.env).map (·.2) := by rfl) : PGs X (e :: es) (gCons t u) := by
  intro pins s σ H vs us Q I r h
  obtain ⟨v, vr, e1, h⟩ := h
  subst e1
  cases r with
  | cons r rr =>
    rw [hs]
    refine assignInOrder_cons (thn (h1 pins s σ H _ _ _ I r h) fun _ s1 ⟨σ1, H1, I1, q1⟩ => ?_)
    exact h2 pins s1 σ1 H1 _ _ Q I1 rr q1
noncomputable def gTup (K : PySem.W.Frag) (n : Nat) (t : TGs) : TG := fun v σ H Q => ∃ a xs, v = .ref a ∧ SqT K H a xs ∧ xs.length = n ∧ t xs σ H Q
theorem pg_tup {es : List Expr} {k : Nat} {t : TGs} {n : Nat} (hc : X.calm = true) (h : PGs X es t)
    (hn : (assignEach es X.env).length = n := by rfl) (hst : (assignEach es X.env).findIdx? (·.1) = none := by rfl) : PG X (.Tuple es k pos) (gTup X.K n t) := by
  intro pins s σ H v u Q I r hw
  obtain ⟨a, xs, e1, hq, hl, hw⟩ := hw
  subst e1
  cases r
  obtain ⟨its, rv, ht, hz⟩ := I.tuple hq
  refine assign_Tuple_tuple (I.ok.hd hc) ht (by simp [hn, ← hl, rv.length]) hst fun h' hx => ?_
  have I1 : Inv X pins σ H { s with heap := h' } := I.kept (t' := s.toks) fun b o e => hx b o (Nat.ne_of_lt (Heap.lt_size e)) e
  exact h pins _ σ H xs _ Q I1 (by simpa using rv) hw
noncomputable def gSub (to ti : TE) (t : TSet) : TG := fun v σ H Q => to σ H fun o H1 => ti σ H1 fun i H2 => t o i v H2 fun H3 => Q σ H3
theorem pg_sub {o i : Expr} {to ti : TE} {t : TSet} (ho : PE X o to) (hi : PE X i ti) (hs : PSet X t)
    (ha : ∀ v, assign (.Subscript o i pos) X.env v = (do
      let ov ← holding [v] (eval o X.env)
      let iv ← holding [v, ov] (eval i X.env)
      standAt pos
      holding [v, ov, iv] (setItem ov iv v)
      release [v, ov, iv] []) := by intro _; rfl) : PG X (.Subscript o i pos) (gSub to ti t) := by
  intro pins s σ H v u Q I r h
  rw [ha]
  refine wpAny_bind (wpAny_holding (thn (ho pins s σ H _ I h) fun ov s1 ⟨x, H1, I1, r1, q1⟩ => ?_))
  refine wpAny_bind (wpAny_holding (thn (hi pins s1 σ H1 _ I1 q1) fun iv s2 ⟨y, H2, I2, r2, q2⟩ => ?_))
  refine wpAny_bind (wpAny_standAt (wpAny_bind (wpAny_holding (thn (hs pins s2 σ H2 x y v ov iv u _ I2 r1 r2 r q2) fun _ s3 ⟨H3, I3, q3⟩ => ?_))))
  exact wpAny_release ⟨σ, H3, I3, q3⟩
noncomputable def tAsg (te : TE) (g : TG) : TS := fun D σ H => te σ H fun x H1 => g x σ H1 D.nx
theorem ps_asg {tg e : Expr} {te : TE} {g : TG} (he : PE X e te) (hg : PG X tg g) (hs : swapsWithSole [tg] e pos.line X.env = pure false := by rfl) (hw : swappedStores [tg] e X.env = pure none := by rfl)
    (h1 : (assignEach [tg] X.env).map (·.2) = [assign tg X.env] := by rfl) : PS X (.Assign [tg] e pos) (tAsg te g) := by
  intro pins s σ H D I h
  refine wpAny_Assign_stores (thn (he pins s σ H _ I h) fun v s1 ⟨x, H1, I1, r1, q1⟩ => ?_) hs hw
  rw [h1]
  exact thn (hg pins s1 σ H1 x v _ I1 r1 q1) fun _ s2 q => q
theorem ps_set {i : Nat} {x : Str} {e : Expr} {te : TE} {pos' : Pos} (hN : X.N.Nodup) (hi : X.N[i]? = some x) (hx : Loc X.env.scope x) (he : PE X e te) (hs : swapsWith e (some (.Name x pos')) pos.line X.env = pure false := by rfl) (hf : X.fn x = true ∨ X.env.scope.names.lookup x = some .local := by first | exact .inl rfl | exact .inr rfl | assumption) :
    PS X (.Assign [.Name x pos'] e pos) (tAsg te (gName i)) := by
  intro pins s σ H D I h
  refine wpAny_Assign_Name (thn (he pins s σ H _ I h) fun v s1 ⟨y, H1, I1, r1, q1⟩ => ?_) hs
  exact store_ok I1 hN hi hx r1 (fun s2 I2 => ⟨_, H1, I2, q1⟩) hf
end
section
variable {X : Cx} {pos : Pos}
end
structure It where
  go : Nat → Hp → Prop
  yld : Nat → Hp → V → Hp → Prop
  stop : Nat → Hp → Prop
noncomputable def FpOk (X : Cx) (pins : List (Addr × Obj)) (H : Hp) (b : Addr) : Prop :=
  H b = none ∧ b ≠ X.env.locals ∧ b ∉ X.fs ∧ (b ∈ X.ex ∨ X.s₀.heap.objs.size ≤ b) ∧ (∀ x c, X.env.cells.lookup x = some c → c ≠ b) ∧ ∀ p ∈ X.pn ++ pins, p.1 ≠ b
theorem Inv.fpOk {X : Cx} {pins : List (Addr × Obj)} {σ : St} {H H' : Hp} {s : Shared} {b : Addr} (I : Inv X pins σ H s) (hb : s.heap.objs.size ≤ b) (hn : H' b = none) : FpOk X pins H' b := by
  refine ⟨hn, Nat.ne_of_gt (Nat.lt_of_lt_of_le I.lt hb), I.nofs hb, .inr (Nat.le_trans I.sz hb), fun x c e z => ?_, fun p hp z => ?_⟩
  · obtain ⟨v, q⟩ := I.cell x c e
    exact absurd (Nat.lt_of_lt_of_le q.lt (by rw [z]; exact hb)) (Nat.lt_irrefl _)
  · exact absurd (Nat.lt_of_lt_of_le (Heap.lt_size (I.pin p hp).1) (by rw [z]; exact hb)) (Nat.lt_irrefl _)
structure Turn (P : Program) (w : World) (K : PySem.W.Frag) (tg : Expr) (J : It) (fp : List Addr) (it : Addr) (tn : Nat → Heap → Prop) : Prop where
  mem : it ∈ fp
  obj : ∀ i h, tn i h → ∀ b ∈ fp, ∃ o, h.get? b = some o ∧ ∀ v, o.data ≠ .cell v
  keep : ∀ i h h', tn i h → (∀ b ∈ fp, ∀ o, h.get? b = some o → h'.get? b = some o) → tn i h'
  item : ∀ (X : Cx), X.prog = P → X.w = w → X.K = K → X.calm = true → ∀ (i : Nat) (pins : List (Addr × Obj)) (s : Shared) (σ : St) (H : Hp) (E : Value → Shared → Prop), Inv X pins σ H s → (∀ b ∈ fp, FpOk X pins H b) → tn i s.heap → J.go i H →
    wpAny (model P w) X.A (pyNext (.ref it)) (fun r s1 => ∃ u, r = some u ∧
      wpAny (model P w) X.A (letOwnedTupleGo tg (.ref it) u) (fun _ s2 => ∃ x H', Inv X pins σ H' s2 ∧ RelV x u ∧ J.yld i H x H' ∧ tn (i + 1) s2.heap ∧ ∀ b ∈ fp, H' b = none) E s1) E s
  done : ∀ (X : Cx), X.prog = P → X.w = w → X.K = K → X.calm = true → ∀ (i : Nat) (pins : List (Addr × Obj)) (s : Shared) (σ : St) (H : Hp) (E : Value → Shared → Prop), Inv X pins σ H s → (∀ b ∈ fp, FpOk X pins H b) → tn i s.heap → J.stop i H →
    wpAny (model P w) X.A (pyNext (.ref it)) (fun r s1 => r = none ∧ Inv X pins σ H s1) E s
  self : ∀ (A : Around) (i : Nat) (s : Shared) (Q : Value → Shared → Prop) (E : Value → Shared → Prop), tn i s.heap → Q (.ref it) s → wpAny (model P w) A (pyIter (.ref it)) Q E s
noncomputable abbrev TI := St → Hp → (It → Hp → Prop) → Prop
noncomputable def PIE (X : Cx) (pins : List (Addr × Obj)) (σ : St) (tg : Expr) (R : It → Hp → Prop) (itv : Value) (s2 : Shared) : Prop :=
  ∃ (it : Addr) (fp : List Addr) (tn : Nat → Heap → Prop) (J : It) (H' : Hp), itv = .ref it ∧ Inv X pins σ H' s2 ∧ Turn X.prog X.w X.K tg J fp it tn ∧ tn 0 s2.heap ∧ (∀ b ∈ fp, FpOk X pins H' b) ∧ R J H'
noncomputable def PI (X : Cx) (tg iter : Expr) (wi : TI) : Prop :=
  ∀ (pins : List (Addr × Obj)) (s : Shared) (σ : St) (H : Hp) (R : It → Hp → Prop), Inv X pins σ H s → wi σ H R →
    wpAny (model X.prog X.w) X.A (eval iter X.env) (fun v s1 => wpAny (model X.prog X.w) X.A (pyIter v) (PIE X pins σ tg R) X.xe s1) X.xe s
theorem go_of {M : Model} {A : Around} {E : Value → Shared → Prop} {s : Shared} {tg : Expr} {it : Addr} {u : Value} {o : Obj} {n : String} {vs : Array Value} {Q : Unit → Shared → Prop} (ho : s.heap.get? it = some o) (hc : o.cls = .type n) (hd : o.data = .fields vs)
    (hn : ["enumerate", "zip", "dict_itemiterator", "dict_reverseitemiterator", "odict_iterator", "itertools.zip_longest", "itertools.pairwise"].contains n = false) (hQ : Q () s) : wpAny M A (letOwnedTupleGo tg (.ref it) u) Q E s := by
  unfold letOwnedTupleGo
  cases tg <;> first
    | exact wpAny_pure hQ
    | (cases u <;> first
        | exact wpAny_pure hQ
        | (refine wpAny_bind (wpAny_load ho ?_)
           rw [hc, hd]
           show wpAny M A (if (["enumerate", "zip", "dict_itemiterator", "dict_reverseitemiterator", "odict_iterator", "itertools.zip_longest", "itertools.pairwise"].contains n && vs[0]? == some (rawInt _)) = true then _ else _) Q E s
           rw [if_neg (by intro h; rw [hn, Bool.false_and] at h; cases h)]
           exact wpAny_pure hQ))
noncomputable def Itl (K : PySem.W.Frag) (a : Addr) : It :=
  ⟨fun i H => ∃ xs x, SqL K H a xs ∧ xs[i]? = some x, fun i H x H' => H' = H ∧ ∀ xs, SqL K H a xs → xs[i]? = some x, fun i H => ∃ xs, SqL K H a xs ∧ xs.length ≤ i⟩
noncomputable def Itt (K : PySem.W.Frag) (a : Addr) : It :=
  ⟨fun i H => ∃ xs x, SqT K H a xs ∧ xs[i]? = some x, fun i H x H' => H' = H ∧ ∀ xs, SqT K H a xs → xs[i]? = some x, fun i H => ∃ xs, SqT K H a xs ∧ xs.length ≤ i⟩
noncomputable def Itr (lo : Int) (n : Nat) : It := ⟨fun i _ => i < n, fun i H x H' => H' = H ∧ x = .int (lo + i), fun i _ => n ≤ i⟩
theorem turn_list {P : Program} {w : World} {K : PySem.W.Frag} {tg : Expr} (a it : Addr) : Turn P w K tg (Itl K a) [it] it (fun i h => h.IsListIter it a i) where
  mem := by simp
  obj := fun i h st b hb => by
    have e : b = it := by simpa using hb
    subst e
    obtain ⟨o, e, c, d⟩ := st
    exact ⟨o, e, fun v z => by rw [d] at z; cases z⟩
  keep := fun i h h' st k => st.at fun o e => k it (by simp) o e
  item := by
    intro X hP hw hK hc i pins s σ H E I hf st hg
    subst hP hw hK
    obtain ⟨xs, x, hq, hx⟩ := hg
    obtain ⟨its, rv, p, hz⟩ := I.list hq
    obtain ⟨u, hu, ru⟩ := rv.get hx
    obtain ⟨f0, f1, f2, f3, f4, f5⟩ := hf it (by simp)
    refine wpAny_pyNext_list_item st p.isList (x := u) (by simpa using hu) fun h' st' sb => ?_
    have I1 : Inv X pins σ H { s with heap := h' } := I.turned (t' := s.toks) (fun b o hb e => (sb.2 b hb).trans e) f0 f1 f3 f4 f5
    obtain ⟨o, e, c, d⟩ := id st'
    exact ⟨u, rfl, go_of (s := { s with heap := h' }) e c d (by decide) ⟨x, H, I1, ru, ⟨rfl, fun ys hy => by rw [I.list_inj hy hq]; exact hx⟩, st', fun b hb => (hf b hb).1⟩⟩
  done := by
    intro X hP hw hK hc i pins s σ H E I hf st hg
    subst hP hw hK
    obtain ⟨xs, hq, hx⟩ := hg
    obtain ⟨its, rv, p, hz⟩ := I.list hq
    obtain ⟨f0, f1, f2, f3, f4, f5⟩ := hf it (by simp)
    have hl := rv.length
    exact wpAny_pyNext_list_end (I.ok.hd hc) st p.isList (by simp; omega) fun h' eb => ⟨rfl, I.turned (t' := s.toks) (fun b o hb e => eb b o hb e) f0 f1 f3 f4 f5⟩
  self := fun _ _ _ _ _ st h => wpAny_pyIter_listiter st h
theorem turn_tuple {P : Program} {w : World} {K : PySem.W.Frag} {tg : Expr} (a it : Addr) : Turn P w K tg (Itt K a) [it] it (fun i h => h.IsTupleIter it a i) where
  mem := by simp
  obj := fun i h st b hb => by
    have e : b = it := by simpa using hb
    subst e
    obtain ⟨o, e, c, d⟩ := st
    exact ⟨o, e, fun v z => by rw [d] at z; cases z⟩
  keep := fun i h h' st k => st.at fun o e => k it (by simp) o e
  item := by
    intro X hP hw hK hc i pins s σ H E I hf st hg
    subst hP hw hK
    obtain ⟨xs, x, hq, hx⟩ := hg
    obtain ⟨its, rv, p, hz⟩ := I.tuple hq
    obtain ⟨u, hu, ru⟩ := rv.get hx
    obtain ⟨f0, f1, f2, f3, f4, f5⟩ := hf it (by simp)
    refine wpAny_pyNext_tuple_item st (show s.heap.IsTuple a its.toArray from p) (x := u) (by simpa using hu) fun h' st' sb => ?_
    have I1 : Inv X pins σ H { s with heap := h' } := I.turned (t' := s.toks) (fun b o hb e => (sb.2 b hb).trans e) f0 f1 f3 f4 f5
    obtain ⟨o, e, c, d⟩ := id st'
    exact ⟨u, rfl, go_of (s := { s with heap := h' }) e c d (by decide) ⟨x, H, I1, ru, ⟨rfl, fun ys hy => by rw [I.tuple_inj hy hq]; exact hx⟩, st', fun b hb => (hf b hb).1⟩⟩
  done := by
    intro X hP hw hK hc i pins s σ H E I hf st hg
    subst hP hw hK
    obtain ⟨xs, hq, hx⟩ := hg
    obtain ⟨its, rv, p, hz⟩ := I.tuple hq
    obtain ⟨f0, f1, f2, f3, f4, f5⟩ := hf it (by simp)
    have hl := rv.length
    exact wpAny_pyNext_tuple_end (I.ok.hd hc) st (show s.heap.IsTuple a its.toArray from p) (by simp; omega) fun h' eb => ⟨rfl, I.turned (t' := s.toks) (fun b o hb e => eb b o hb e) f0 f1 f3 f4 f5⟩
  self := fun _ _ _ _ _ st h => wpAny_pyIter_tupleiter st h
theorem turn_range {P : Program} {w : World} {K : PySem.W.Frag} {tg : Expr} (it : Addr) (lo : Int) (n : Nat) : Turn P w K tg (Itr lo n) [it] it (fun i h => IsRangeIter h it (lo + (i : Nat) * 1) ((n : Int) - (i : Nat)) 1) where
  mem := by simp
  obj := fun i h st b hb => by
    have e : b = it := by simpa using hb
    subst e
    exact ⟨_, st, fun v z => by
      have z' : Data.fields _ = Data.cell v := z
      cases z'⟩
  keep := fun i h h' st k => k it (by simp) _ st
  item := by
    intro X hP hw hK hc i pins s σ H E I hf st hg
    subst hP hw hK
    obtain ⟨f0, f1, f2, f3, f4, f5⟩ := hf it (by simp)
    have W := Walks.range (prog := X.prog) (w := X.w) (I.ok.hd hc) it lo 1 n
    refine W.item i s _ _ hg st fun v h' tk hv st' kk => ?_
    obtain ⟨t, rfl⟩ := hv
    have I1 : Inv X pins σ H { s with heap := h', toks := tk } := I.turned (fun b o hb e => kk b o (by simpa using hb) e) f0 f1 f3 f4 f5
    refine ⟨_, rfl, go_of (s := { s with heap := h', toks := tk }) (n := "range_iterator") st' rfl rfl (by decide) ⟨.int (lo + i), H, I1, ⟨t, ?_⟩, ⟨rfl, rfl⟩, st', fun b hb => (hf b hb).1⟩⟩
    rw [Int.mul_one]
  done := by
    intro X hP hw hK hc i pins s σ H E I hf st hg
    subst hP hw hK
    obtain ⟨f0, f1, f2, f3, f4, f5⟩ := hf it (by simp)
    exact wpAny_pyNext_range_end (I.ok.hd hc) st (by have : n ≤ i := hg; omega) fun h' eb => ⟨rfl, I.turned (t' := s.toks) (fun b o hb e => eb b o hb e) f0 f1 f3 f4 f5⟩
  self := fun _ _ _ _ _ st h => wpAny_pyIter_rangeiter st h
end L2
namespace L2
open PySem PySem.Spec PyProof.Rows
section
variable {X : Cx} {tg : Expr}
noncomputable def iList (K : PySem.W.Frag) (tl : TE) : TI := fun σ H R => tl σ H fun x H1 => ∃ a, x = .ref a ∧ (∃ xs, SqL K H1 a xs) ∧ R (Itl K a) H1
noncomputable def iTup (K : PySem.W.Frag) (tl : TE) : TI := fun σ H R => tl σ H fun x H1 => ∃ a, x = .ref a ∧ (∃ xs, SqT K H1 a xs) ∧ R (Itt K a) H1
theorem pi_list {l : Expr} {tl : TE} (hl : PE X l tl) : PI X tg l (iList X.K tl) := by
  intro pins s σ H R I h
  refine thn (hl pins s σ H _ I h) fun v s1 ⟨x, H1, I1, r1, q1⟩ => ?_
  obtain ⟨a, e, ⟨xs, hq⟩, q⟩ := q1
  subst e
  cases r1
  obtain ⟨its, rv, p, hz⟩ := I1.list hq
  refine wpAny_pyIter_list p.isList ?_
  refine ⟨s1.heap.objs.size, [s1.heap.objs.size], _, _, H1, rfl, I1.kept (t' := s1.toks) fun b o e => Heap.get?_push_of_some _ e, turn_list a _, ⟨_, Heap.get?_push_size _ rfl, rfl, rfl⟩, fun b hb => ?_, q⟩
  have e : b = s1.heap.objs.size := by simpa using hb
  subst e
  exact I1.fpOk (Nat.le_refl _) (I1.hok.fresh (Nat.le_refl _))
theorem pi_tup {l : Expr} {tl : TE} (hl : PE X l tl) : PI X tg l (iTup X.K tl) := by
  intro pins s σ H R I h
  refine thn (hl pins s σ H _ I h) fun v s1 ⟨x, H1, I1, r1, q1⟩ => ?_
  obtain ⟨a, e, ⟨xs, hq⟩, q⟩ := q1
  subst e
  cases r1
  obtain ⟨its, rv, p, hz⟩ := I1.tuple hq
  refine wpAny_pyIter_tuple (show s1.heap.IsTuple a its.toArray from p) ?_
  refine ⟨s1.heap.objs.size, [s1.heap.objs.size], _, _, H1, rfl, I1.kept (t' := s1.toks) fun b o e => Heap.get?_push_of_some _ e, turn_tuple a _, ⟨_, Heap.get?_push_size _ rfl, rfl, rfl⟩, fun b hb => ?_, q⟩
  have e : b = s1.heap.objs.size := by simpa using hb
  subst e
  exact I1.fpOk (Nat.le_refl _) (I1.hok.fresh (Nat.le_refl _))
theorem range_it {pins : List (Addr × Obj)} {σ : St} {H : Hp} {s : Shared} {R : It → Hp → Prop} {E : Value → Shared → Prop} {lo hi : Int} {t u v : Tok} {tk : Nat} (I : Inv X pins σ H s) (h1 : -(2 ^ 62) ≤ lo) (h2 : lo < 2 ^ 62) (h3 : -(2 ^ 62) ≤ hi) (h4 : hi < 2 ^ 62)
    (q : R (Itr lo (hi - lo).toNat) H) : wpAny (model X.prog X.w) X.A (pyIter (.ref s.heap.objs.size)) (PIE X pins σ tg R) E { s with heap := s.heap.push { cls := .type "range", data := .fields #[.int lo t, .int hi u, .int 1 v] }, toks := tk } := by
  refine wpAny_pyIter_range (IsRange.new ..) (small_one h1 h2 h3 h4) ?_
  have I1 : Inv X pins σ H { s with heap := s.heap.push { cls := .type "range", data := .fields #[.int lo t, .int hi u, .int 1 v] }, toks := tk } := I.kept fun b o e => Heap.get?_push_of_some _ e
  refine ⟨(s.heap.push { cls := .type "range", data := .fields #[.int lo t, .int hi u, .int 1 v] }).objs.size, [(s.heap.push { cls := .type "range", data := .fields #[.int lo t, .int hi u, .int 1 v] }).objs.size], _, _, H, rfl,
    I1.kept (t' := tk) fun b o e => Heap.get?_push_of_some _ e, turn_range _ lo (hi - lo).toNat, ?_, fun b hb => ?_, q⟩
  · have e1 : lo + ((0 : Nat) : Int) * 1 = lo := by simp
    have e2 : (((hi - lo).toNat : Nat) : Int) - ((0 : Nat) : Int) = Builtin.Range.rangeSize lo hi 1 := by rw [rangeSize_one]; split <;> omega
    show IsRangeIter _ _ (lo + ((0 : Nat) : Int) * 1) ((((hi - lo).toNat : Nat) : Int) - ((0 : Nat) : Int)) 1
    rw [e1, e2]
    exact Heap.get?_push_size _ rfl
  · have e : b = (s.heap.push { cls := .type "range", data := .fields #[.int lo t, .int hi u, .int 1 v] }).objs.size := by simpa using hb
    subst e
    exact I1.fpOk (Nat.le_refl _) (I1.hok.fresh (Nat.le_refl _))
noncomputable def iRng1 (ta : TA) : TI := fun σ H R => ta σ H fun vs H1 => ∃ j : Int, vs = [.int j] ∧ -(2 ^ 62) ≤ j ∧ j < 2 ^ 62 ∧ R (Itr 0 j.toNat) H1
theorem pi_range1 {a : Expr} {ta : TA} {p pos : Pos} (hg : Gl X "range") (hm : X.mg "range" = none) (ha : PA X [a] ta) (hs : starEach [a] X.env = [(false, eval a X.env)] := by rfl) : PI X tg (.Call (.Name "range" p) [a] [] pos) (iRng1 ta) := by
  intro pins s σ H R I h
  refine Call_ (ld_blt I hg hm boot_range (PyProof.Rows.callWith_type1 (thn (ha pos pins s σ H _ I h) fun us s1 ⟨vs, H1, I1, r1, q1⟩ => ?_) hs rfl))
  obtain ⟨j, e, q1, q2, q⟩ := q1
  subst e
  cases r1 with
  | cons r rr =>
    cases rr
    obtain ⟨t, rfl⟩ := r
    exact call_range_1 (range_it I1 (by omega) (by omega) q1 q2 (by simpa using q))
noncomputable def tFor (wi : TI) (g : TG) (tb : TS) : TS := fun D σ H => wi σ H fun J H1 => ∃ W : Nat → Nat → St → Hp → Prop, (∃ m, W 0 m σ H1) ∧ ∀ i m σ H, W i m σ H →
  (J.stop i H ∧ D.nx σ H) ∨ (J.go i H ∧ ∃ N : St → Hp → Prop, (∀ σ' H', N σ' H' → ∃ m', m' < m ∧ W (i + 1) m' σ' H') ∧ ∀ x H', J.yld i H x H' → g x σ H' fun σ2 H2 => tb { D with nx := N, ct := N, bk := D.nx } σ2 H2)
noncomputable def pinsAt (fp : List Addr) (h : Heap) : List (Addr × Obj) := fp.filterMap fun b => (h.get? b).map fun o => (b, o)
theorem mem_pinsAt {fp : List Addr} {h : Heap} {b : Addr} {o : Obj} (hb : b ∈ fp) (e : h.get? b = some o) : (b, o) ∈ pinsAt fp h := List.mem_filterMap.mpr ⟨b, hb, by rw [e]; rfl⟩
theorem of_pinsAt {fp : List Addr} {h : Heap} {p : Addr × Obj} (hp : p ∈ pinsAt fp h) : p.1 ∈ fp ∧ h.get? p.1 = some p.2 := by
  obtain ⟨b, hb, e⟩ := List.mem_filterMap.mp hp
  cases q : h.get? b with
  | none => rw [q] at e; cases e
  | some o =>
    rw [q] at e
    have e' : (b, o) = p := Option.some.inj e
    subst e'
    exact ⟨hb, q⟩
theorem Inv.pinned {pins : List (Addr × Obj)} {σ : St} {H : Hp} {s : Shared} {fp : List Addr} (I : Inv X pins σ H s) (hf : ∀ b ∈ fp, FpOk X pins H b) (ho : ∀ b ∈ fp, ∃ o, s.heap.get? b = some o ∧ ∀ v, o.data ≠ .cell v) : Inv X (pins ++ pinsAt fp s.heap) σ H s :=
  I.pins_of fun p hp => (List.mem_append.mp hp).elim (fun z => I.pin p (List.mem_append_right _ z)) fun z => by
    obtain ⟨hb, e⟩ := of_pinsAt z
    obtain ⟨f0, f1, f2, _⟩ := hf p.1 hb
    obtain ⟨o, e', d⟩ := ho p.1 hb
    rw [e] at e'; cases e'
    exact ⟨e, f0, f1, f2, d⟩
theorem Inv.unpinned {pins pl : List (Addr × Obj)} {σ : St} {H : Hp} {s : Shared} (I : Inv X (pins ++ pl) σ H s) : Inv X pins σ H s := I.pins_of fun p hp => I.pin p (List.mem_append_right _ (List.mem_append_left _ hp))
theorem ps_for {iter : Expr} {body : List Stmt} {wi : TI} {g : TG} {tb : TS} {pos : Pos} (hp : PassesOwn (model X.prog X.w) X.A X.env X.xe) (hc : X.calm = true) (hi : PI X tg iter wi) (hg : PG X tg g) (hb : PSs X body tb)
    (hs : ∀ x, foldedSetIterable iter X.env x = pure x := by intro _; rfl) : PS X (.For tg iter body [] pos) (tFor wi g tb) := by
  intro pins s σ H D I h
  refine wpAny_For (thn (hi pins s σ H _ I h) fun v s1 h1 => thn h1 fun itv s2 h2 => ?_) hs
  obtain ⟨it, fp, tn, J, H2, e, I2, T, st2, f2, W, ⟨m0, w0⟩, turn⟩ := h2
  subst e
  have stat : ∀ {H' : Hp}, (∀ b ∈ fp, H' b = none) → ∀ b ∈ fp, FpOk X pins H' b := fun hn b hb => ⟨hn b hb, (f2 b hb).2⟩
  refine codeAny_forLoop_any (fun n s' => ∃ i σ' H', Inv X pins σ' H' s' ∧ tn i s'.heap ∧ (∀ b ∈ fp, H' b = none) ∧ W i n σ' H') ?_ m0 ⟨0, σ, H2, I2, st2, fun b hb => (f2 b hb).1, w0⟩
  rintro n s3 ⟨i, σ3, H3, I3, st3, fr3, w3⟩
  rcases turn i n σ3 H3 w3 with ⟨stop, qn⟩ | ⟨go, N, hN, step⟩
  · refine wpAny_passesOwn hp (thn (T.done X rfl rfl rfl hc i pins s3 σ3 H3 X.xe I3 (stat fr3) st3 stop) fun r s4 ⟨hr, I4⟩ => ?_)
    subst hr
    exact wpAny_execs_nil ⟨σ3, H3, I4, qn⟩
  · refine wpAny_passesOwn hp (thn (T.item X rfl rfl rfl hc i pins s3 σ3 H3 X.xe I3 (stat fr3) st3 go) fun r s4 ⟨u, hr, h4⟩ => ?_)
    subst hr
    refine wpAny_passesOwn hp (thn h4 fun _ s5 ⟨x, H5, I5, r5, y5, st5, fr5⟩ => ?_)
    have I5' := I5.pinned (stat fr5) (T.obj _ _ st5)
    refine wpAny_passesOwn hp (thn (hg _ s5 σ3 H5 x u _ I5' r5 (step x H5 y5)) fun _ s6 ⟨σ6, H6, I6, q6⟩ => ?_)
    refine wpAny_passesOwn hp (thn (hb _ s6 σ6 H6 _ I6 q6) fun f s7 q7 => ?_)
    have again : ∀ {σ7 : St} {H7 : Hp}, Inv X (pins ++ pinsAt fp s5.heap) σ7 H7 s7 → N σ7 H7 → ∃ m, m < n ∧ ∃ i σ' H', Inv X pins σ' H' s7 ∧ tn i s7.heap ∧ (∀ b ∈ fp, H' b = none) ∧ W i m σ' H' := fun {σ7 H7} I7 n7 => by
      obtain ⟨m', hm, w7⟩ := hN σ7 H7 n7
      refine ⟨m', hm, i + 1, σ7, H7, I7.unpinned, T.keep _ _ _ st5 fun b hb o e => (I7.pin (b, o) (List.mem_append_right _ (List.mem_append_right _ (mem_pinsAt hb e)))).1, fun b hb => ?_, w7⟩
      obtain ⟨o, e, d⟩ := T.obj _ _ st5 b hb
      exact (I7.pin (b, o) (List.mem_append_right _ (List.mem_append_right _ (mem_pinsAt hb e)))).2.1
    cases f with
    | next => obtain ⟨σ7, H7, I7, n7⟩ := q7; exact again I7 n7
    | cont => obtain ⟨σ7, H7, I7, n7⟩ := q7; exact again I7 n7
    | brk => obtain ⟨σ7, H7, I7, q7⟩ := q7; exact ⟨σ7, H7, I7.unpinned, q7⟩
    | ret v => obtain ⟨x7, σ7, H7, I7, r7, q7⟩ := q7; exact ⟨x7, σ7, H7, I7.unpinned, r7, q7⟩
end
end L2
namespace L2
open PySem PySem.Spec PyProof.Rows
noncomputable abbrev R2 := V → V → Hp → VK → Prop
noncomputable def OpR (X : Cx) (f : Value → Value → Sem Value) (r : R2) : Prop :=
  ∀ (pins : List (Addr × Obj)) (s : Shared) (σ : St) (H : Hp) (x y : V) (v u : Value) (Q : VK), Inv X pins σ H s → RelV x v → RelV y u → r x y H Q →
    wpAny (model X.prog X.w) X.A (f v u) (EP X pins σ Q) X.xe s
noncomputable def CallR (X : Cx) (f : Value) (r : List V → Hp → VK → Prop) : Prop :=
  ∀ (pins : List (Addr × Obj)) (s : Shared) (σ : St) (H : Hp) (xs : List V) (us : List Value) (Q : VK), Inv X pins σ H s → Vals xs us → r xs H Q →
    wpAny (model X.prog X.w) X.A (call f us) (EP X pins σ Q) X.xe s
noncomputable def tOp (r : R2) (ta tb : TE) : TE := fun σ H Q => ta σ H fun x H1 => tb σ H1 fun y H2 => r x y H2 Q
noncomputable def rI (C : Int → Int → Prop) (g : Int → Int → V) : R2 := fun x y H Q => ∃ i j, x = .int i ∧ y = .int j ∧ C i j ∧ Q (g i j) H
noncomputable def rI0 (g : Int → Int → V) : R2 := fun x y H Q => ∃ i j, x = .int i ∧ y = .int j ∧ Q (g i j) H
section
variable {X : Cx} {a b c : Expr} {ta tb tc : TE} {pos : Pos}
theorem binT (ha : PE X a ta) (hb : PE X b tb) {pins : List (Addr × Obj)} {s : Shared} {σ : St} {H : Hp} {R : V → V → Hp → Prop} (I : Inv X pins σ H s)
    (h : ta σ H fun x H1 => tb σ H1 fun y H2 => R x y H2) {Q : Value → Shared → Prop} {f : Value → Value → Sem Value}
    (hf : ∀ v u s2 x y H2, Inv X pins σ H2 s2 → RelV x v → RelV y u → R x y H2 → wpAny (model X.prog X.w) X.A (f v u) Q X.xe s2) :
    wpAny (model X.prog X.w) X.A (eval a X.env) (fun v s₁ => wpAny (model X.prog X.w) X.A (eval b X.env) (fun u s₂ => wpAny (model X.prog X.w) X.A (f v u) Q X.xe s₂) X.xe s₁) X.xe s := by
  refine thn (ha pins s σ H _ I h) fun v s1 ⟨x, H1, I1, r1, q1⟩ => ?_
  refine thn (hb pins s1 σ H1 _ I1 q1) fun u s2 ⟨y, H2, I2, r2, q2⟩ => ?_
  exact hf v u s2 x y H2 I2 r1 r2 q2
theorem pe_op {op : Operator} {r : R2} (ho : OpR X (binaryOp op) r) (ha : PE X a ta) (hb : PE X b tb) : PE X (.BinOp a op b pos) (tOp r ta tb) := by
  intro pins s σ H Q I h
  exact wpAny_BinOp (binT ha hb I h fun v u s2 x y H2 I2 rx ry q => ho pins s2 σ H2 x y v u Q I2 rx ry q)
theorem opI {f : Value → Value → Sem Value} {C : Int → Int → Prop} {g : Int → Int → Int}
    (rule : ∀ (i j : Int) (t u : Tok) (s : Shared) (Q : Value → Shared → Prop) (E : Value → Shared → Prop), C i j → Q (.int (g i j) s.toks) { s with toks := s.toks + 1 } → wpAny (model X.prog X.w) X.A (f (.int i t) (.int j u)) Q E s) :
    OpR X f (rI C fun i j => .int (g i j)) := by
  intro pins s σ H x y v u Q I rx ry h
  obtain ⟨i, j, rfl, rfl, hc, q⟩ := h
  obtain ⟨t, rfl⟩ := rx
  obtain ⟨t', rfl⟩ := ry
  exact rule i j t t' s _ _ hc ⟨.int (g i j), H, I.tok _, ⟨_, rfl⟩, q⟩
theorem opI0 {f : Value → Value → Sem Value} {g : Int → Int → Int}
    (rule : ∀ (i j : Int) (t u : Tok) (s : Shared) (Q : Value → Shared → Prop) (E : Value → Shared → Prop), Q (.int (g i j) s.toks) { s with toks := s.toks + 1 } → wpAny (model X.prog X.w) X.A (f (.int i t) (.int j u)) Q E s) :
    OpR X f (rI0 fun i j => .int (g i j)) := by
  intro pins s σ H x y v u Q I rx ry h
  obtain ⟨i, j, rfl, rfl, q⟩ := h
  obtain ⟨t, rfl⟩ := rx
  obtain ⟨t', rfl⟩ := ry
  exact rule i j t t' s _ _ ⟨.int (g i j), H, I.tok _, ⟨_, rfl⟩, q⟩
theorem opB0 {f : Value → Value → Sem Value} {g : Int → Int → Bool}
    (rule : ∀ (i j : Int) (t u : Tok) (s : Shared) (Q : Value → Shared → Prop) (E : Value → Shared → Prop), Q (.bool (g i j)) s → wpAny (model X.prog X.w) X.A (f (.int i t) (.int j u)) Q E s) :
    OpR X f (rI0 fun i j => .bl (g i j)) := by
  intro pins s σ H x y v u Q I rx ry h
  obtain ⟨i, j, rfl, rfl, q⟩ := h
  obtain ⟨t, rfl⟩ := rx
  obtain ⟨t', rfl⟩ := ry
  exact rule i j t t' s _ _ ⟨.bl (g i j), H, I, rfl, q⟩
noncomputable def CDiv (i j : Int) : Prop := 0 < j ∧ j < 1073741824
noncomputable def CPow (i j : Int) : Prop := 0 ≤ j ∧ j ≤ 1000000 ∧ i.natAbs < 2 ^ 64
noncomputable def CMul (i j : Int) : Prop := (-(2 ^ 64) < i ∧ i < 2 ^ 64) ∨ (-(2 ^ 64) < j ∧ j < 2 ^ 64)
theorem CMul.ok {i j : Int} (h : CMul i j) : IntMulOk i j := by
  rcases h with ⟨h1, h2⟩ | ⟨h1, h2⟩
  · exact .of_left (intBits_le_64 h1 h2)
  · exact .of_right (intBits_le_64 h1 h2)
theorem op_add : OpR X (binaryOp .Add) (rI0 fun i j => .int (i + j)) := opI0 fun _ _ _ _ _ _ _ q => add_int q
theorem op_sub : OpR X (binaryOp .Sub) (rI0 fun i j => .int (i - j)) := opI0 fun _ _ _ _ _ _ _ q => sub_int q
theorem op_mul : OpR X (binaryOp .Mult) (rI CMul fun i j => .int (i * j)) := opI fun _ _ _ _ _ _ _ hc q => mul_int q hc.ok
theorem op_fdiv : OpR X (binaryOp .FloorDiv) (rI CDiv fun i j => .int (i / j)) := opI fun i j _ _ _ _ _ hc q => by
  have h1 : (0 : Int) < j := hc.1
  have h2 : j < 1073741824 := hc.2
  exact floordiv_int (by omega) (by rw [Int.fdiv_eq_ediv_of_nonneg i (by omega)]; exact q) (.inl (PyProof.noPylong_small (by omega)))
theorem op_mod : OpR X (binaryOp .Mod) (rI (fun _ j => 0 < j) fun i j => .int (i % j)) := opI fun i j _ _ _ _ _ hc q => by
  have h1 : (0 : Int) < j := hc
  exact mod_int' (by omega) (by rw [Int.fmod_eq_emod_of_nonneg i (by omega)]; exact q)
theorem op_pow : OpR X (binaryOp .Pow) (rI CPow fun i j => .int (i ^ j.toNat)) := opI fun _ _ _ _ _ _ _ hc q => pow_int_small hc.1 hc.2.1 hc.2.2 q
end
noncomputable def scal : V → V → Bool
  | .non, .non => true | .non, .int _ => true | .int _, .non => true | .non, .bl _ => true | .bl _, .non => true | .non, .str _ => true | .str _, .non => true
  | .int _, .int _ => true | .bl _, .bl _ => true | .str _, .str _ => true | .byt _, .byt _ => true
  | .int _, .str _ => true | .str _, .int _ => true | .bl _, .str _ => true | .str _, .bl _ => true
  | _, _ => false
noncomputable def rEq : R2 := fun x y H Q => scal x y = true ∧ Q (.bl (decide (x = y))) H
noncomputable def rNe : R2 := fun x y H Q => scal x y = true ∧ Q (.bl (!decide (x = y))) H
theorem dec_int {i j : Int} : decide (V.int i = V.int j) = (i == j) := by
  rw [Bool.eq_iff_iff]
  simp
theorem dec_bl {i j : Bool} : decide (V.bl i = V.bl j) = (i == j) := by
  rw [Bool.eq_iff_iff]
  simp
theorem dec_str {i j : Str} : decide (V.str i = V.str j) = (i == j) := by
  rw [Bool.eq_iff_iff]
  simp
theorem dec_byt {i j : Array UInt8} : decide (V.byt i = V.byt j) = (i.toList == j.toList) := by
  rw [Bool.eq_iff_iff]
  cases i
  cases j
  simp
section
variable {X : Cx} {a b c : Expr} {ta tb tc : TE} {pos : Pos}
theorem fin_bl {pins : List (Addr × Obj)} {σ : St} {H : Hp} {s : Shared} {Q : VK} {k k' : Bool} (I : Inv X pins σ H s) (q : Q (.bl k) H) (e : k = k') : EP X pins σ Q (.bool k') s := by
  subst e
  exact ⟨.bl k, H, I, rfl, q⟩
theorem op_eq : OpR X (compareOp .Eq) rEq := by
  intro pins s σ H x y v u Q I rx ry h
  obtain ⟨hs, q⟩ := h
  cases x with
  | non =>
    cases rx
    cases y with
    | non => cases ry; exact PySem.EqNone.eq_none_none (fin_bl I q (by simp))
    | bl j => cases ry; exact PySem.EqNone.eq_none_bool (fin_bl I q (by simp))
    | int j => obtain ⟨t', rfl⟩ := ry; exact PySem.EqNone.eq_none_int (fin_bl I q (by simp))
    | str j => obtain ⟨t', rfl⟩ := ry; exact PySem.EqNone.eq_none_str (fin_bl I q (by simp))
    | _ => exact absurd (show false = true from hs) Bool.false_ne_true
  | bl i =>
    cases rx
    cases y with
    | non => cases ry; exact PySem.EqNone.eq_bool_none (fin_bl I q (by simp))
    | bl j => cases ry; exact eq_bool (fin_bl I q dec_bl)
    | str j => obtain ⟨t', rfl⟩ := ry; exact PySem.EqMixed.eq_bool_str (fin_bl I q (by simp))
    | _ => exact absurd (show false = true from hs) Bool.false_ne_true
  | int i =>
    obtain ⟨t, rfl⟩ := rx
    cases y with
    | non => cases ry; exact PySem.EqNone.eq_int_none (fin_bl I q (by simp))
    | int j => obtain ⟨t', rfl⟩ := ry; exact eq_int (fin_bl I q dec_int)
    | str j => obtain ⟨t', rfl⟩ := ry; exact PySem.EqMixed.eq_int_str (fin_bl I q (by simp))
    | _ => exact absurd (show false = true from hs) Bool.false_ne_true
  | str i =>
    obtain ⟨t, rfl⟩ := rx
    cases y with
    | non => cases ry; exact PySem.EqNone.eq_str_none (fin_bl I q (by simp))
    | bl j => cases ry; exact PySem.EqMixed.eq_str_bool (fin_bl I q (by simp))
    | int j => obtain ⟨t', rfl⟩ := ry; exact PySem.EqMixed.eq_str_int (fin_bl I q (by simp))
    | str j => obtain ⟨t', rfl⟩ := ry; exact eq_str (fin_bl I q dec_str)
    | _ => exact absurd (show false = true from hs) Bool.false_ne_true
  | byt i =>
    obtain ⟨t, rfl⟩ := rx
    cases y with
    | byt j => obtain ⟨t', rfl⟩ := ry; exact PySem.W.eq_bytes (fin_bl I q dec_byt)
    | _ => exact absurd (show false = true from hs) Bool.false_ne_true
  | _ => cases y <;> exact absurd (show false = true from hs) Bool.false_ne_true
theorem op_ne : OpR X (compareOp .NotEq) rNe := by
  intro pins s σ H x y v u Q I rx ry h
  obtain ⟨hs, q⟩ := h
  cases x with
  | non =>
    cases rx
    cases y with
    | non => cases ry; exact PySem.EqNone.ne_none_none (fin_bl I q (by simp))
    | bl j => cases ry; exact PySem.EqNone.ne_none_bool (fin_bl I q (by simp))
    | int j => obtain ⟨t', rfl⟩ := ry; exact PySem.EqNone.ne_none_int (fin_bl I q (by simp))
    | str j => obtain ⟨t', rfl⟩ := ry; exact PySem.EqNone.ne_none_str (fin_bl I q (by simp))
    | _ => exact absurd (show false = true from hs) Bool.false_ne_true
  | bl i =>
    cases rx
    cases y with
    | non => cases ry; exact PySem.EqNone.ne_bool_none (fin_bl I q (by simp))
    | bl j => cases ry; exact ne_bool (fin_bl I q (congrArg not dec_bl))
    | str j => obtain ⟨t', rfl⟩ := ry; exact PySem.EqMixed.ne_bool_str (fin_bl I q (by simp))
    | _ => exact absurd (show false = true from hs) Bool.false_ne_true
  | int i =>
    obtain ⟨t, rfl⟩ := rx
    cases y with
    | non => cases ry; exact PySem.EqNone.ne_int_none (fin_bl I q (by simp))
    | int j => obtain ⟨t', rfl⟩ := ry; exact ne_int (fin_bl I q (congrArg not dec_int))
    | str j => obtain ⟨t', rfl⟩ := ry; exact PySem.EqMixed.ne_int_str (fin_bl I q (by simp))
    | _ => exact absurd (show false = true from hs) Bool.false_ne_true
  | str i =>
    obtain ⟨t, rfl⟩ := rx
    cases y with
    | non => cases ry; exact PySem.EqNone.ne_str_none (fin_bl I q (by simp))
    | bl j => cases ry; exact PySem.EqMixed.ne_str_bool (fin_bl I q (by simp))
    | int j => obtain ⟨t', rfl⟩ := ry; exact PySem.EqMixed.ne_str_int (fin_bl I q (by simp))
    | str j => obtain ⟨t', rfl⟩ := ry; exact ne_str (fin_bl I q (congrArg not dec_str))
    | _ => exact absurd (show false = true from hs) Bool.false_ne_true
  | byt i =>
    obtain ⟨t, rfl⟩ := rx
    cases y with
    | byt j => obtain ⟨t', rfl⟩ := ry; exact PySem.W.ne_bytes (fin_bl I q (congrArg not dec_byt))
    | _ => exact absurd (show false = true from hs) Bool.false_ne_true
  | _ => cases y <;> exact absurd (show false = true from hs) Bool.false_ne_true
theorem op_lt : OpR X (compareOp .Lt) (rI0 fun i j => .bl (decide (i < j))) := opB0 fun _ _ _ _ _ _ _ q => lt_int q
theorem op_le : OpR X (compareOp .LtE) (rI0 fun i j => .bl (decide (i ≤ j))) := opB0 fun _ _ _ _ _ _ _ q => le_int q
theorem op_gt : OpR X (compareOp .Gt) (rI0 fun i j => .bl (decide (j < i))) := opB0 fun _ _ _ _ _ _ _ q => gt_int q
theorem op_ge : OpR X (compareOp .GtE) (rI0 fun i j => .bl (decide (j ≤ i))) := opB0 fun _ _ _ _ _ _ _ q => ge_int q
theorem op_isN : OpR X (compareOp .Is) (fun x y H Q => y = .non ∧ Q (.bl (decide (x = .non))) H) := by
  intro pins s σ H x y v u Q I rx ry h
  obtain ⟨rfl, q⟩ := h
  cases ry
  refine is_none_gen (fin_bl I q ?_)
  cases x <;> first
    | (cases rx; rfl)
    | (obtain ⟨t, rfl⟩ := rx; rfl)
theorem OpR.or {f : Value → Value → Sem Value} {r r' : R2} (h : OpR X f r) (h' : OpR X f r') : OpR X f (fun x y H Q => r x y H Q ∨ r' x y H Q) := by
  intro pins s σ H x y v u Q I rx ry q
  rcases q with q | q
  · exact h pins s σ H x y v u Q I rx ry q
  · exact h' pins s σ H x y v u Q I rx ry q
theorem nomark (b : Expr) {op : CmpOp} (h : op ≠ .In := by decide) (h2 : op ≠ .NotIn := by decide) : behindInMarks op b = false := by
  have e1 : (op == CmpOp.In) = false := by cases op <;> first | rfl | exact absurd rfl h
  have e2 : (op == CmpOp.NotIn) = false := by cases op <;> first | rfl | exact absurd rfl h2
  cases b <;> simp [behindInMarks, e1, e2]
theorem pe_cmpR {op : CmpOp} {r : R2} (ho : OpR X (compareOp op) r) (ha : PE X a ta) (hb : PE X b tb) (hm : behindInMarks op b = false) : PE X (.Compare a [op] [b] pos) (tOp r ta tb) := by
  intro pins s σ H Q I h
  exact wpAny_Compare1 (binT ha hb I h fun v u s2 x y H2 I2 rx ry q => ho pins s2 σ H2 x y v u Q I2 rx ry q) hm
noncomputable def tTest (t : TE) : TT := fun σ H Q => t σ H fun x H' => ∃ k, x = .bl k ∧ Q k H'
theorem pt_cmpR {op : CmpOp} {r : R2} (ho : OpR X (compareOp op) r) (ha : PE X a ta) (hb : PE X b tb) (hm : behindInMarks op b = false) : PT X (.Compare a [op] [b] pos) (tTest (tOp r ta tb)) := by
  intro pins s σ H Q I h
  refine wpAny_isTrue_Compare1 (thn (ha pins s σ H _ I h) fun v s1 ⟨x, H1, I1, r1, q1⟩ => thn (hb pins s1 σ H1 _ I1 q1) fun u s2 ⟨y, H2, I2, r2, q2⟩ =>
    thn (ho pins s2 σ H2 x y v u _ I2 r1 r2 q2) fun c s3 ⟨z, H3, I3, r3, k, e, q3⟩ => ?_) hm
  subst e
  cases r3
  exact wpAny_truthy_bool ⟨H3, I3, q3⟩
noncomputable def tChain (r r' : R2) (ta tb tc : TE) : TE := fun σ H Q => ta σ H fun x H1 => tb σ H1 fun y H2 => r x y H2 fun z H3 => ∃ k, z = .bl k ∧
  (if k = true then tc σ H3 fun w' H4 => r' y w' H4 Q else Q (.bl false) H3)
theorem pe_chain {op op' : CmpOp} {r r' : R2} (ho : OpR X (compareOp op) r) (ho' : OpR X (compareOp op') r') (ha : PE X a ta) (hb : PE X b tb) (hc : PE X c tc)
    (hm : lastMarks [op, op'] [b, c] = false := by with_unfolding_all rfl) : PE X (.Compare a [op, op'] [b, c] pos) (tChain r r' ta tb tc) := by
  intro pins s σ H Q I h
  refine Compare_chain (thn (ha pins s σ H _ I h) fun v s1 ⟨x, H1, I1, r1, q1⟩ => chain_link (thn (hb pins s1 σ H1 _ I1 q1) fun u s2 ⟨y, H2, I2, r2, q2⟩ =>
    thn (ho pins s2 σ H2 x y v u _ I2 r1 r2 q2) fun d s3 ⟨z, H3, I3, r3, k, e, q3⟩ => ?_)) hm
  subst e
  cases r3
  refine wpAny_truthy_bool ?_
  cases k with
  | false => exact ite_ff ⟨.bl false, H3, I3, rfl, q3⟩
  | true => exact ite_tt (chain_last (thn (hc pins s3 σ H3 _ I3 q3) fun w' s4 ⟨z', H4, I4, r4, q4⟩ => ho' pins s4 σ H4 y z' u w' Q I4 r2 r4 q4))
theorem pt_chain {op op' : CmpOp} {r r' : R2} (ho : OpR X (compareOp op) r) (ho' : OpR X (compareOp op') r') (ha : PE X a ta) (hb : PE X b tb) (hc : PE X c tc)
    (hm : lastMarks [op, op'] [b, c] = false := by with_unfolding_all rfl) : PT X (.Compare a [op, op'] [b, c] pos) (tTest (tChain r r' ta tb tc)) := by
  intro pins s σ H Q I h
  refine isTrue_chain (thn (ha pins s σ H _ I h) fun v s1 ⟨x, H1, I1, r1, q1⟩ => test_link (thn (hb pins s1 σ H1 _ I1 q1) fun u s2 ⟨y, H2, I2, r2, q2⟩ =>
    thn (ho pins s2 σ H2 x y v u _ I2 r1 r2 q2) fun d s3 ⟨z, H3, I3, r3, k, e, q3⟩ => ?_)) hm
  subst e
  cases r3
  refine wpAny_truthy_bool ?_
  cases k with
  | false =>
    obtain ⟨k', e', q'⟩ := q3
    cases e'
    exact ite_ff ⟨H3, I3, q'⟩
  | true =>
    refine ite_tt (test_last (thn (hc pins s3 σ H3 _ I3 q3) fun w' s4 ⟨z', H4, I4, r4, q4⟩ => thn (ho' pins s4 σ H4 y z' u w' _ I4 r2 r4 q4) fun d' s5 ⟨z2, H5, I5, r5, k2, e2, q5⟩ => ?_))
    subst e2
    cases r5
    exact wpAny_truthy_bool ⟨H5, I5, q5⟩
theorem line63 : (sizeLine : Nat) < 2 ^ 63 := by rw [sizeLine_eq]; decide
theorem op_add_str : OpR X (binaryOp .Add) (fun x y H Q => ∃ i j, x = .str i ∧ y = .str j ∧ i.length + j.length ≤ sizeLine ∧ Q (.str (i ++ j)) H) := by
  intro pins s σ H x y v u Q I rx ry h
  obtain ⟨i, j, rfl, rfl, hz, q⟩ := h
  obtain ⟨t, rfl⟩ := rx
  obtain ⟨t', rfl⟩ := ry
  exact add_str (fun t' tk => ⟨.str (i ++ j), H, I.tok _, ⟨_, rfl⟩, q⟩) hz
theorem vals1 {x : V} {us : List Value} (r : Vals [x] us) : ∃ u, us = [u] ∧ RelV x u := by
  cases r with
  | cons r1 r2 => cases r2; exact ⟨_, rfl, r1⟩
theorem vals2 {x y : V} {us : List Value} (r : Vals [x, y] us) : ∃ u w', us = [u, w'] ∧ RelV x u ∧ RelV y w' := by
  cases r with
  | cons r1 r2 =>
    cases r2 with
    | cons r3 r4 => cases r4; exact ⟨_, _, rfl, r1, r3⟩
theorem call_max2 (hc : X.calm = true) : CallR X (.builtin "max") (fun xs H Q => ∃ i j, xs = [.int i, .int j] ∧ Q (.int (if j > i then j else i)) H) := by
  intro pins s σ H xs us Q I r h
  obtain ⟨i, j, rfl, q⟩ := h
  obtain ⟨u, w', rfl, ⟨t, rfl⟩, ⟨t', rfl⟩⟩ := vals2 r
  refine max_two_ints (I.ok.hd hc) fun h' tk k => ⟨_, H, I.kept k, ?_, q⟩
  by_cases hj : j > i
  · rw [if_pos hj, if_pos hj]; exact ⟨_, rfl⟩
  · rw [if_neg hj, if_neg hj]; exact ⟨_, rfl⟩
theorem call_min2 (hc : X.calm = true) : CallR X (.builtin "min") (fun xs H Q => ∃ i j, xs = [.int i, .int j] ∧ Q (.int (if j < i then j else i)) H) := by
  intro pins s σ H xs us Q I r h
  obtain ⟨i, j, rfl, q⟩ := h
  obtain ⟨u, w', rfl, ⟨t, rfl⟩, ⟨t', rfl⟩⟩ := vals2 r
  refine min_two_ints (I.ok.hd hc) fun h' tk k => ⟨_, H, I.kept k, ?_, q⟩
  by_cases hj : j < i
  · rw [if_pos hj, if_pos hj]; exact ⟨_, rfl⟩
  · rw [if_neg hj, if_neg hj]; exact ⟨_, rfl⟩
theorem call_str_int : CallR X (.type "str") (fun xs H Q => ∃ i, xs = [.int i] ∧ i.natAbs.log2 < 1920 ∧ Q (.str (toString i)) H) := by
  intro pins s σ H xs us Q I r h
  obtain ⟨i, rfl, hz, q⟩ := h
  obtain ⟨u, rfl, t, rfl⟩ := vals1 r
  exact PySem.P.str_of_int hz ⟨.str _, H, I.tok _, ⟨_, rfl⟩, q⟩
end
end L2
namespace L2
open PySem PySem.Spec PyProof.Rows
structure ObjM (h : Heap) (x dx C : Addr) (mA : Str → Option Value) : Prop where
  obj : h.get? x = some (PySem.W.instObj C dx)
  ns : h.Ns1 dx mA
  ne : dx ≠ x
theorem lookIn_ns {h : Heap} {dx : Addr} {mA : Str → Option Value} (n : h.Ns1 dx mA) : ∃ od, h.get? dx = some od ∧ ∀ name, PySem.W.lookIn name od = some (mA name) := by
  obtain ⟨o, es, ep, ho, hd, hk, _, hm⟩ := n
  refine ⟨o, ho, fun name => ?_⟩
  have e := hm name
  unfold nsFind findBy at e
  rw [← Array.find?_toList] at e
  unfold PySem.W.lookIn
  rw [hd]
  dsimp only
  split
  · rename_i y q
    rw [q] at e
    exact congrArg some e
  · rename_i q
    rw [q] at e
    have a : es.toList.any (·.refKey) = false := by
      rw [List.any_eq_false]
      intro y hy
      obtain ⟨z, t, hkey⟩ := hk y (Array.mem_toList_iff.mp hy)
      simp [DictEntry.refKey, hkey]
    have a' : ¬ es.toList.any (·.refKey) = true := by rw [a]; exact Bool.false_ne_true
    rw [if_neg a']
    exact congrArg some e
theorem ObjM.look {h : Heap} {x dx C : Addr} {mA : Str → Option Value} (I : ObjM h x dx C mA) : ∃ od, PySem.W.InstAt h x (PySem.W.instObj C dx) C (some od) ∧ ∀ name, PySem.W.lookIn name od = some (mA name) :=
  let ⟨od, ho, hl⟩ := lookIn_ns I.ns
  ⟨od, ⟨I.obj, rfl, rfl, ho⟩, hl⟩
section
variable {prog : Program} {w : World} {A : Around} {E : Value → Shared → Prop} {s : Shared} {K : PySem.W.Frag} {x dx C f : Addr} {mA : Str → Option Value} {name : Str} {v : Value}
end
section
variable {P : Program} {w : World} {H H' : Hp} {h h' : Heap} {a C dx : Addr} {fs fs' : List (Str × V)}
theorem ins_get (hok : HOk P w H h) (e : H a = some (.ins C dx fs)) : ∃ mA, ObjM h a dx C mA ∧ (∀ f, RelO (fs.lookup f) (mA f)) ∧ PySem.Within mA (fs.map (·.1)) ∧ fs.length ≤ 1000 ∧ H dx = some (.own a) := by
  obtain ⟨d, z, ne, ob, mA, n, r, q⟩ := (show ObjOk P w H h a (.ins C dx fs) from hok a _ e)
  exact ⟨mA, ⟨ob, n, ne⟩, r, q, z, d⟩
end
structure Cls (K : PySem.W.Frag) (C : Addr) : Prop where
  pg : PySem.W.plainGet K C Str.empty = true
  hd : PySem.W.hasDictIn K C = true
  po : PySem.W.plainOver K C = true
  sa : PySem.W.findIn K (.ref C) "__setattr__" = some (some (.builtin "object.__setattr__"))
theorem Cls.get {K : PySem.W.Frag} {C : Addr} (c : Cls K C) (f : Str) : PySem.W.plainGet K C f = true := c.pg
section
variable {X : Cx} {pins : List (Addr × Obj)} {σ : St} {H : Hp} {s : Shared} {a C dx : Addr} {fs : List (Str × V)} {f : Str} {v : V} {A : Around} {E : Value → Shared → Prop}
end
section
variable {X : Cx} {o e value : Expr} {f : Str} {pos pos' tpos : Pos} {ta tv : TE}
end
section
variable {X : Cx} {pins : List (Addr × Obj)} {σ : St} {H : Hp} {s : Shared} {A : Around} {E : Value → Shared → Prop} {Q : Value → Shared → Prop} {c : Value} {b : Bool}
inductive TyOf (K : PySem.W.Frag) (H : Hp) : V → Value → Prop where
  | non : TyOf K H .non (.type "NoneType")
  | bl (x : Bool) : TyOf K H (.bl x) (.type "bool")
  | int (i : Int) : TyOf K H (.int i) (.type "int")
  | str (x : Str) : TyOf K H (.str x) (.type "str")
  | flt (x : UInt64) : TyOf K H (.flt x) (.type "float")
  | lst {a : Addr} {xs : List V} (e : H a = some (.lst xs)) : TyOf K H (.ref a) (.type "list")
  | frz {a : Addr} {o : Obj} {xs : List V} (e : H a = some (.frz o (.lst xs))) : TyOf K H (.ref a) (.type "list")
  | tup {a : Addr} {xs : List V} (e : H a = some (.tup xs)) : TyOf K H (.ref a) (.type "tuple")
  | dK {a : Addr} {kvs : List (Key × V)} (e : H a = some (.dK kvs)) : TyOf K H (.ref a) (.type "dict")
  | dT {a : Addr} {kvs : List (List Key × V)} (e : H a = some (.dT kvs)) : TyOf K H (.ref a) (.type "dict")
  | ins {a C dx : Addr} {fs : List (Str × V)} (e : H a = some (.ins C dx fs)) (cl : Cls K C) (ha : PySem.W.findIn K (.ref C) "__class__" = some (some (.builtin "object.__class__")))
      (hn : PySem.W.specialIn K (.builtin "object.__class__") "__get__" = some (some (.builtin "getset_descriptor.__get__"))) (htk : PySem.W.takesIn K (.builtin "object.__class__") = some true)
      (hm : PySem.W.mroIn K C (.type "object") = some true) : TyOf K H (.ref a) (.ref C)
theorem isinst_ok {x : V} {u t : Value} (I : Inv X pins σ H s) (rx : RelV x u) (ty : TyOf X.K H x t) (e : PySem.W.kitOne X.K t c = some b) (h : ∀ tk, Q (.bool b) { s with toks := tk }) :
    wpAny (model X.prog X.w) A (call (.builtin "isinstance") [u, c]) Q E s := by
  cases ty with
  | non => cases (show u = Value.none from rx); exact PySem.W.kia_one PySem.W.kitx_none I.kIn True.intro e (fun z => nomatch z) h
  | bl y => cases (show u = Value.bool y from rx); exact PySem.W.kia_one PySem.W.kitx_bool I.kIn True.intro e (fun z => nomatch z) h
  | int i => obtain ⟨t, q⟩ := (show ∃ t, u = Value.int i t from rx); cases q; exact PySem.W.kia_one PySem.W.kitx_int I.kIn True.intro e (fun z => nomatch z) h
  | str y => obtain ⟨t, q⟩ := (show ∃ t, u = Value.str y t from rx); cases q; exact PySem.W.kia_one PySem.W.kitx_str I.kIn True.intro e (fun z => nomatch z) h
  | flt y => obtain ⟨t, q⟩ := (show ∃ t, u = Value.float y t from rx); cases q; exact PySem.W.kia_one PySem.W.kitx_float I.kIn True.intro e (fun z => nomatch z) h
  | @lst a xs ea =>
    cases (show u = Value.ref a from rx)
    obtain ⟨_, _, n, _, h1⟩ := (show ObjOk X.prog X.w H s.heap a (.lst xs) from I.hok a _ ea)
    exact PySem.W.kia_one PySem.W.kitx_list I.kIn ⟨_, h1, rfl⟩ e (fun z => nomatch z) h
  | @frz a ob xs ea =>
    cases (show u = Value.ref a from rx)
    obtain ⟨_, _, _, n, _, h1⟩ := (show ObjOk X.prog X.w H s.heap a (.frz ob (.lst xs)) from I.hok a _ ea)
    exact PySem.W.kia_one PySem.W.kitx_list I.kIn ⟨_, h1, rfl⟩ e (fun z => nomatch z) h
  | @tup a xs ea =>
    cases (show u = Value.ref a from rx)
    obtain ⟨_, _, _, p⟩ := (show ObjOk X.prog X.w H s.heap a (.tup xs) from I.hok a _ ea)
    obtain ⟨o, h1, h2, _⟩ := p
    exact PySem.W.kia_one PySem.W.kitx_tuple I.kIn ⟨o, h1, h2⟩ e (fun z => nomatch z) h
  | @dK a kvs ea =>
    cases (show u = Value.ref a from rx)
    obtain ⟨_, _, vs, _, p⟩ := (show ObjOk X.prog X.w H s.heap a (.dK kvs) from I.hok a _ ea)
    obtain ⟨o, es, ep, h1, h2, _⟩ := p
    exact PySem.W.kia_one PySem.W.kitx_dict I.kIn ⟨o, h1, h2.1⟩ e (fun z => nomatch z) h
  | @dT a kvs ea =>
    cases (show u = Value.ref a from rx)
    obtain ⟨_, _, xs, _, o, es, ep, h1, h2, _⟩ := (show ObjOk X.prog X.w H s.heap a (.dT kvs) from I.hok a _ ea)
    exact PySem.W.kia_one PySem.W.kitx_dict I.kIn ⟨o, h1, h2.1⟩ e (fun z => nomatch z) h
  | @ins a C dx fs ea cl ha hn htk hm =>
    cases (show u = Value.ref a from rx)
    obtain ⟨mA, O, _⟩ := ins_get I.hok ea
    obtain ⟨od, J, _⟩ := O.look
    exact PySem.W.kia_one (PySem.W.kitx_own (cl.get _) cl.hd ha hn htk hm) I.kIn J e (fun z => nomatch z) h
end
end L2
namespace L2
open PySem PySem.Spec PyProof.Rows
structure Room (k : Nat) (A : Around) : Prop where
  hd : A.handled = none
  dp : A.depth + 3 * k + 5 < recursionLimit
  un : A.units + 16 * k + 200 < cLine
  gd : A.guards = some []
theorem Room.mono {j k : Nat} {A : Around} (r : Room k A) (h : j ≤ k) : Room j A := ⟨r.hd, by have := r.dp; omega, by have := r.un; omega, r.gd⟩
theorem Room.deeper {k : Nat} {A : Around} (r : Room (k + 1) A) (env : Env) : Room k (A.deeper env) :=
  ⟨r.hd, by have := r.dp; show A.depth + 1 + 3 * k + 5 < _; omega, by have := r.un; show A.units + 3 + 16 * k + 200 < _; omega, r.gd⟩
theorem Room.in1 {k : Nat} {A : Around} (r : Room (k + 1) A) : Room k A.in1 :=
  ⟨r.hd, by have := r.dp; show A.depth + 3 * k + 5 < _; omega, by have := r.un; show A.units + 1 + 16 * k + 200 < _; omega, r.gd⟩
theorem Room.depth {k : Nat} {A : Around} (r : Room k A) : A.depth < recursionLimit := by have := r.dp; omega
theorem Room.units {k : Nat} {A : Around} (r : Room k A) : A.units + 64 < cLine := by have := r.un; omega
noncomputable def tNil : TA := fun _ H Q => Q [] H
noncomputable def tCons (ta : TE) (tr : TA) : TA := fun σ H Q => ta σ H fun x H1 => tr σ H1 fun xs H2 => Q (x :: xs) H2
section
variable {X : Cx} {e : Expr} {es : List Expr} {te : TE} {t : TA} {pos : Pos}
theorem pa_nil : PA X [] tNil := fun _ _ _ _ H Q I h => Calls.spliced_nil ⟨[], H, I, .nil, h⟩
theorem pa_cons (ha : PE X e te) (hr : PA X es t) (hs : starEach (e :: es) X.env = (false, eval e X.env) :: starEach es X.env := by rfl) : PA X (e :: es) (tCons te t) := by
  intro pos pins s σ H Q I h
  rw [hs]
  show wpAny _ _ (spliced ((false, eval e X.env) :: backTo pos (starEach es X.env))) _ _ s
  refine Calls.spliced_cons (thn (ha pins s σ H _ I h) fun u s1 ⟨x, H1, I1, r1, q1⟩ => ?_)
  exact thn (hr pos pins s1 σ H1 _ I1 q1) fun us s2 ⟨xs, H2, I2, r2, q2⟩ => ⟨x :: xs, H2, I2, .cons r1 r2, q2⟩
noncomputable def tTup (t : TA) : TE := fun σ H Q => t σ H fun xs H1 => xs.length ≤ sizeLine ∧ ∀ p, H1 p = none → Q (.ref p) (upd H1 p (.tup xs))
noncomputable def tLst (t : TA) : TE := fun σ H Q => t σ H fun xs H1 => xs.length ≤ sizeLine ∧ ∀ p, H1 p = none → Q (.ref p) (upd H1 p (.lst xs))
theorem pe_tup {x1} (h : PA X es t) : PE X (.Tuple es x1 pos) (tTup t) := by
  intro pins s σ H Q I hq
  refine wpAny_Tuple_spliced (thn (h pos pins s σ H _ I hq) fun us s1 ⟨xs, H1, I1, r, z, q⟩ => ⟨by rw [← r.length]; exact z, ?_⟩)
  have hf : H1 s1.heap.objs.size = none := I1.hok.fresh (Nat.le_refl _)
  refine ⟨.ref s1.heap.objs.size, upd H1 s1.heap.objs.size (.tup xs), I1.laid (t' := s1.toks) (fun b u e => Heap.get?_push_of_some _ e) (Nat.le_refl _) ?_, rfl, q _ hf⟩
  exact ⟨z, us, r, ⟨_, Heap.get?_push_size _ rfl, rfl, _, rfl⟩⟩
theorem pe_lst (h : PA X es t) : PE X (.List es pos) (tLst t) := by
  intro pins s σ H Q I hq
  refine wpAny_List_spliced (thn (h pos pins s σ H _ I hq) fun us s1 ⟨xs, H1, I1, r, z, q⟩ => ⟨by rw [← r.length]; exact z, ?_⟩)
  have hf : H1 s1.heap.objs.size = none := I1.hok.fresh (Nat.le_refl _)
  refine ⟨.ref s1.heap.objs.size, upd H1 s1.heap.objs.size (.lst xs), I1.laid (t' := s1.toks) (fun b u e => Heap.get?_push_of_some _ e) (Nat.le_refl _) ?_, rfl, q _ hf⟩
  exact ⟨z, us, 0, r, Heap.get?_push_size _ rfl⟩
end
noncomputable abbrev Sp := List V → Hp → VK → XK → Prop
noncomputable abbrev CXT := List Env → Hp → Shared → XK → Value → Shared → Prop
structure Env0 (P : Program) (w : World) (K : PySem.W.Frag) (mg : Str → Option Value) (base : Heap) (A : Around) (outer : List Env) (s : Shared) (H : Hp) : Prop where
  frames : A.frames = some outer
  mod : Mod K mg base
  bs : ∀ b o, base.get? b = some o → s.heap.get? b = some o ∧ H b = none
  bsz : base.objs.size ≤ s.heap.objs.size
  funs : s.heap.FunFrames base outer
  frf : ∀ b ∈ frs outer, H b = none
  hok : HOk P w H s.heap
  bare : AllBare s.gens
noncomputable def CE (outer : List Env) (P : Program) (w : World) (H : Hp) (s : Shared) (Q : VK) (u : Value) (s' : Shared) : Prop :=
  ∃ v H', s'.os = s.os ∧ AllBare s'.gens ∧ Un (frs outer) [] H H' s.heap s'.heap ∧ HOk P w H' s'.heap ∧ RelV v u ∧ Q v H'
noncomputable def CR (CX : CXT) (outer : List Env) (P : Program) (w : World) (H : Hp) (s : Shared) (Q : VK) (E : XK) (r : Result) (s' : Shared) : Prop :=
  match r with
  | .ok (.ret u) => CE outer P w H s Q u s'
  | .ok _ => False
  | .error e => CX outer H s E e s'
structure FnOk (P : Program) (w : World) (K : PySem.W.Frag) (mg : Str → Option Value) (base : Heap) (CX : CXT) (k : Nat) (f : Addr) (fd : FuncData) (ps : List Str) (sp : Sp) : Prop where
  len : ∀ vs H Q E, sp vs H Q E → vs.length = ps.length
  run : ∀ (A : Around) (outer : List Env) (s : Shared) (H : Hp) (args : Args) (us : List Value) (vs : List V) (Q : VK) (E : XK), Room k A → Env0 P w K mg base A outer s H → BindsTo s fd args (ps.zip us) → Vals vs us → sp vs H Q E →
    codeAny (model P w) A (.call (.ref f) args) (CR CX outer P w H s Q E) s
theorem FnOk.mono {P : Program} {w : World} {K : PySem.W.Frag} {mg : Str → Option Value} {base : Heap} {CX : CXT} {j k : Nat} {f : Addr} {fd : FuncData} {ps : List Str} {sp : Sp} (F : FnOk P w K mg base CX j f fd ps sp) (h : j ≤ k) :
    FnOk P w K mg base CX k f fd ps sp := ⟨F.len, fun A outer s H args us vs Q E hr => F.run A outer s H args us vs Q E (hr.mono h)⟩
theorem FnOk.imp {P : Program} {w : World} {K : PySem.W.Frag} {mg : Str → Option Value} {base : Heap} {CX : CXT} {k : Nat} {f : Addr} {fd : FuncData} {ps : List Str} {sp sp' : Sp} (F : FnOk P w K mg base CX k f fd ps sp)
    (h : ∀ vs H Q E, sp' vs H Q E → sp vs H Q E) : FnOk P w K mg base CX k f fd ps sp' :=
  ⟨fun vs H Q E q => F.len vs H Q E (h _ _ _ _ q), fun A outer s H args us vs Q E hr he hb hv hs => F.run A outer s H args us vs Q E hr he hb hv (h _ _ _ _ hs)⟩
theorem Env0.in1 {P : Program} {w : World} {K : PySem.W.Frag} {mg : Str → Option Value} {base : Heap} {A : Around} {outer : List Env} {s : Shared} {H : Hp} (e : Env0 P w K mg base A outer s H) :
    Env0 P w K mg base A.in1 outer s H := ⟨e.frames, e.mod, e.bs, e.bsz, e.funs, e.frf, e.hok, e.bare⟩
section
variable {X : Cx} {pins : List (Addr × Obj)} {σ : St} {H : Hp} {s s' : Shared}
theorem Inv.env0 (I : Inv X pins σ H s) : Env0 X.prog X.w X.K X.mg X.base X.A X.stack s H :=
  ⟨I.ok.frames, I.ok.mod, I.bs, Nat.le_trans I.ok.bsz I.sz, I.stack, I.stkFree, I.hok, I.bare⟩
theorem Inv.after {Q : VK} {u : Value} (I : Inv X pins σ H s) (h : CE X.stack X.prog X.w H s Q u s') : EP X pins σ Q u s' := by
  obtain ⟨v, H', os, bare, un, hok, r, q⟩ := h
  obtain ⟨hh, g, d, t, os'⟩ := s'
  obtain rfl : os' = s.os := os
  exact ⟨v, H', I.call (h' := hh) (g' := g) (d' := d) (t' := t) (ch := []) un hok bare (fun b z => absurd z (by simp)), r, q⟩
end
noncomputable def tCall (sp : Sp) (dvs : List V) (E : XK) (t : TA) : TE := fun σ H Q => t σ H fun vs H1 => sp (vs ++ dvs) H1 Q E
noncomputable def Binds (K : PySem.W.Frag) (fd : FuncData) (ps : List Str) (ds : List Value) : Prop :=
  ∀ (s : Shared) (us : List Value), K.In s.heap → (us ++ ds).length = ps.length → BindsTo s fd ⟨us, []⟩ (ps.zip (us ++ ds))
theorem Binds.all {K : PySem.W.Frag} {fd : FuncData} {ps : List Str} (h : ∀ us : List Value, us.length = ps.length → bindArgs fd ⟨us, []⟩ = pure (ps.zip us)) : Binds K fd ps [] := fun s us _ hl => by
  rw [List.append_nil] at hl ⊢
  exact .of_eq (h us hl)
noncomputable def Passes (CX : CXT) (X : Cx) (E : XK) : Prop := ∀ (pins : List (Addr × Obj)) (σ : St) (H : Hp) (s : Shared) (e : Value) (s' : Shared), Inv X pins σ H s → CX X.stack H s E e s' → X.xe e s'
section
variable {X : Cx} {CX : CXT} {k : Nat} {f C : Addr} {fd : FuncData} {ps : List Str} {sp : Sp} {dvs : List V} {ds : List Value} {E : XK} {x m : Str} {p pos apos : Pos} {e o : Expr} {es : List Expr} {ta : TE} {t : TA}
theorem run_fn {pins : List (Addr × Obj)} {σ : St} {H : Hp} {s : Shared} {Q : VK} {us : List Value} {vs : List V} (F : FnOk X.prog X.w X.K X.mg X.base CX k f fd ps sp) (hr : Room k X.A) (hb : Binds X.K fd ps ds) (hd : Vals dvs ds) (hx : Passes CX X E)
    (I : Inv X pins σ H s) (r : Vals vs us) (h : sp (vs ++ dvs) H Q E) : wpAny (model X.prog X.w) X.A (call (.ref f) us) (EP X pins σ Q) X.xe s := by
  have r2 : Vals (vs ++ dvs) (us ++ ds) := r.append hd
  have hl : (us ++ ds).length = ps.length := by rw [← r2.length]; exact F.len _ _ _ _ h
  refine wpAny_call (codeAny_mono (F.run X.A X.stack s H ⟨us, []⟩ (us ++ ds) (vs ++ dvs) Q E hr I.env0 (hb s us I.kIn hl) r2 h) fun r s' hq => ?_)
  cases r with
  | error e => exact hx pins σ H s e s' I hq
  | ok fl =>
    cases fl with
    | ret u => exact I.after hq
    | next => exact False.elim hq
    | brk => exact False.elim hq
    | cont => exact False.elim hq
theorem pe_call (F : FnOk X.prog X.w X.K X.mg X.base CX k f fd ps sp) (hr : Room k X.A) (hg : Gl X x) (hm : X.mg x = some (.ref f)) (hk : PySem.W.keepIn X.K (.ref f) = true) (hb : Binds X.K fd ps ds) (hd : Vals dvs ds) (hx : Passes CX X E)
    (ha : PA X (e :: es) t) (hdb : (x == ("__debug__" : Str)) = false := by decide) (he : starEach (e :: es) X.env = (false, eval e X.env) :: starEach es X.env := by rfl) (hpl : (backTo pos (starEach es X.env)).any (·.1) = false := by rfl) :
    PE X (.Call (.Name x p) (e :: es) [] pos) (tCall sp dvs E t) := by
  intro pins s σ H Q I h
  refine wpAny_Call_Name_kw (ld_glob I hg hm ?_ hdb)
  refine PySem.W.callWith_K (h₀ := X.base) I.ok.mod.kin hk (thn (ha pos pins s σ H _ I h) fun us s1 ⟨vs, H1, I1, r, q⟩ => ⟨I1.kIn, ?_⟩) he hpl
  exact run_fn F hr hb hd hx I1 r q
structure Mk (K : PySem.W.Frag) (C f : Addr) : Prop where
  makes : PySem.W.makesIn K C = true
  init : PySem.W.findIn K (.ref C) "__init__" = some (some (.ref f))
  fn : PySem.W.isFn K (.ref f) = true
  kp : PySem.W.keepIn K (.ref C) = true
end
section
variable {X : Cx} {CX : CXT} {k : Nat} {f C : Addr} {fd : FuncData} {ps ks : List Str} {sp : Sp} {E : XK} {x m : Str} {p pos apos kpos : Pos} {e o : Expr} {es : List Expr} {kws : List Keyword} {te ta : TE} {t tk : TA} {nm : Option Str}
variable {g : List Value → List Value → List Value} {gV : List V → List V → List V}
end
structure FnScope (N P : List Str) (sc : Scope) : Prop where
  kind : sc.kind = .function
  co : sc.isCoroutine = false
  gen : sc.isGenerator = false
  nd : N.Nodup
  pre : N.take P.length = P
  par : ∀ x ∈ P, sc.names.lookup x = some .local ∨ sc.names.lookup x = some .cell
  nofree : ∀ y ∈ sc.names, y.2 ≠ .free
theorem bindL_out {kindOf : Str → Option NameKind} {x : Str} : ∀ {binds : List (Str × Value)} {m : Str → Option Value}, (∀ v, (x, v) ∉ binds) → bindL kindOf binds m x = m x
  | [], _, _ => rfl
  | (n, v) :: r, m, h => by
    unfold bindL
    rw [bindL_out fun w hw => h w (List.mem_cons_of_mem _ hw)]
    split
    · have : x ≠ n := by rintro rfl; exact h v List.mem_cons_self
      simp [this]
    · rfl
theorem bindC_out {kindOf : Str → Option NameKind} {x : Str} : ∀ {binds : List (Str × Value)} {m : Str → Option Value}, (∀ v, (x, v) ∉ binds) → bindC kindOf binds m x = m x
  | [], _, _ => rfl
  | (n, v) :: r, m, h => by
    unfold bindC
    rw [bindC_out fun w hw => h w (List.mem_cons_of_mem _ hw)]
    split
    · rfl
    · have : x ≠ n := by rintro rfl; exact h v List.mem_cons_self
      simp [this]
theorem bindL_get {kindOf : Str → Option NameKind} {x : Str} {v : Value} : ∀ {P : List Str} {vs : List Value} {i : Nat} {m : Str → Option Value}, P.Nodup → P[i]? = some x → vs[i]? = some v → kindOf x = some .local →
    bindL kindOf (P.zip vs) m x = some v
  | [], _, _, _, _, h, _, _ => by simp at h
  | _ :: _, [], _, _, _, _, h, _ => by simp at h
  | p :: P, w :: vs, 0, m, nd, h1, h2, hk => by
    simp at h1 h2; subst h1; subst h2
    show bindL kindOf ((p, w) :: P.zip vs) m p = _
    unfold bindL
    rw [bindL_out fun v hv => (List.nodup_cons.mp nd).1 (List.of_mem_zip hv).1, if_pos hk]
    simp
  | p :: P, w :: vs, i + 1, m, nd, h1, h2, hk => by
    show bindL kindOf ((p, w) :: P.zip vs) m x = _
    unfold bindL
    exact bindL_get (i := i) (List.nodup_cons.mp nd).2 (by simpa using h1) (by simpa using h2) hk
theorem bindC_get {kindOf : Str → Option NameKind} {x : Str} {v : Value} : ∀ {P : List Str} {vs : List Value} {i : Nat} {m : Str → Option Value}, P.Nodup → P[i]? = some x → vs[i]? = some v → kindOf x ≠ some .local →
    bindC kindOf (P.zip vs) m x = some v
  | [], _, _, _, _, h, _, _ => by simp at h
  | _ :: _, [], _, _, _, _, h, _ => by simp at h
  | p :: P, w :: vs, 0, m, nd, h1, h2, hk => by
    simp at h1 h2; subst h1; subst h2
    show bindC kindOf ((p, w) :: P.zip vs) m p = _
    unfold bindC
    rw [bindC_out fun v hv => (List.nodup_cons.mp nd).1 (List.of_mem_zip hv).1, if_neg hk]
    simp
  | p :: P, w :: vs, i + 1, m, nd, h1, h2, hk => by
    show bindC kindOf ((p, w) :: P.zip vs) m x = _
    unfold bindC
    exact bindC_get (i := i) (List.nodup_cons.mp nd).2 (by simpa using h1) (by simpa using h2) hk
noncomputable def start (N : List Str) (vs : List V) : St := vs.map some ++ List.replicate (N.length - vs.length) none
noncomputable def cxOf (CX : CXT) (P : Program) (w : World) (K : PySem.W.Frag) (mg : Str → Option Value) (base : Heap) (N : List Str) (qual : Str) (scope : Scope) (f : Addr) (cd : Value) (A : Around) (outer : List Env) (s : Shared) (H : Hp) (E : XK) : Cx where
  prog := P
  w := w
  K := K
  mg := mg
  base := base
  A := A.deeper (envOfC qual scope s.heap.objs.size f cd)
  N := N
  s₀ := s
  H₀ := H
  env := envOfC qual scope s.heap.objs.size f cd
  outer := outer
  stack := envOfC qual scope s.heap.objs.size f cd :: outer
  ex := []
  calm := true
  fn := fun _ => true
  pn := []
  xe := fun e s' => wpAny (model P w) (A.deeper (envOfC qual scope s.heap.objs.size f cd)) (leaving (envOfC qual scope s.heap.objs.size f cd) e) (fun _ s'' => CX outer H s E e s'') (fun e' s'' => CX outer H s E e' s'') s'
theorem cell_has {sc : Scope} {n : Nat} {x : Str} (h : sc.names.lookup x = some .cell) : ∃ c, (cellsFrom n sc.names []).lookup x = some c := by
  have q := PySem.W.cellsFrom_some sc.names n [] (.inl h)
  exact Option.isSome_iff_exists.mp q
theorem inv_start {CX : CXT} {P : Program} {w : World} {K : PySem.W.Frag} {mg : Str → Option Value} {base : Heap} {N ps : List Str} {qual : Str} {scope : Scope} {f : Addr} {cd : Value} {A : Around} {outer : List Env} {s s1 : Shared} {H : Hp} {E : XK} {us : List Value} {vs : List V}
    (S : FnScope N ps scope) (hd : A.handled = none) (e0 : Env0 P w K mg base A outer s H) (hl : vs.length = ps.length) (r : Vals vs us)
    (x : InCallC s s.heap.objs.size (bindL (envOfC qual scope s.heap.objs.size f cd).kindOf (ps.zip us) fun _ => none) (cellsFrom (s.heap.objs.size + 1) scope.names []) (bindC (envOfC qual scope s.heap.objs.size f cd).kindOf (ps.zip us) fun _ => none) s1) :
    Inv (cxOf CX P w K mg base N qual scope f cd A outer s H E) [] (start N vs) H s1 := by
  have hpl : ps.length ≤ N.length := by have := congrArg List.length S.pre; rw [List.length_take] at this; omega
  obtain ⟨h1, tk, rfl, hk⟩ := x.done
  have noA : ∀ b : Addr, b ∉ (cxOf CX P w K mg base N qual scope f cd A outer s H E).ex := fun b z => absurd (show b ∈ ([] : List Addr) from z) (by simp)
  refine ⟨⟨e0.mod, S.kind, rfl, rfl, Nat.le_refl _, fun y z c h1 h2 => ?_, fun y hy => ?_, fun y c _ h => ?_, fun _ => hd, Around.frames_deeper e0.frames, .inr ⟨rfl, rfl⟩, fun b z => absurd z (noA b), e0.bs, e0.bsz, fun b _ _ => noA b, fun b z => absurd z (noA b), e0.funs, e0.frf⟩,
    rfl, e0.bare, Un.kept hk, ⟨_, x.toInCall.ns, fun i y v h1 h2 h3 => ?_⟩, fun y c h => ⟨_, x.cell y c h⟩, e0.hok.fresh (Nat.le_refl _), fun y c h => ?_, fun p hp => absurd (show p ∈ ([] : List (Addr × Obj)) from hp) (by simp), e0.hok.kept hk, ?_⟩
  · exact name_of_addr x.apart (PySem.mem_of_lookup h1) (PySem.mem_of_lookup h2)
  · have hy : scope.names.lookup y = some .cell ∨ scope.names.lookup y = some .free := hy
    rcases hy with hy | hy
    · exact cell_has hy
    · exact absurd rfl (S.nofree _ (PySem.mem_of_lookup hy))
  · exact Nat.le_of_lt (x.above y c (PySem.mem_of_lookup h))
  · have hi : i < vs.length := by
      unfold start at h2
      by_cases hi : i < vs.length
      · exact hi
      · rw [List.getElem?_append_right (by simpa using hi)] at h2
        rw [List.getElem?_replicate] at h2
        split at h2 <;> cases h2
    have ha : vs[i]? = some v := by
      unfold start at h2
      rw [List.getElem?_append_left (by simpa using hi), List.getElem?_map] at h2
      cases e : vs[i]? with
      | none => rw [e] at h2; cases h2
      | some a => rw [e] at h2; cases h2; rfl
    obtain ⟨u, hu, rv⟩ := r.get ha
    have hp : ps[i]? = some y := by
      rw [← S.pre, List.getElem?_take_of_lt (by omega)]; exact h1
    have ndP : ps.Nodup := by rw [← S.pre]; exact S.nd.sublist (List.take_sublist _ _)
    refine ⟨u, rv, ?_⟩
    rcases S.par y (List.mem_of_getElem? hp) with k | k
    · exact .inl ⟨k, bindL_get ndP hp hu k⟩
    · obtain ⟨c, e⟩ := cell_has (n := s.heap.objs.size + 1) k
      refine .inr ⟨.inl k, c, e, ?_⟩
      have q := x.cell y c e
      rw [bindC_get ndP hp hu (by show scope.names.lookup y ≠ _; rw [k]; decide)] at q
      exact q
  · exact e0.hok.fresh (Nat.le_of_lt (x.above y c (PySem.mem_of_lookup h)))
  · unfold start
    show _ = N.length
    rw [List.length_append, List.length_map, List.length_replicate]
    omega
theorem fn_of {CX : CXT} {P : Program} {w : World} {K : PySem.W.Frag} {mg : Str → Option Value} {base : Heap} {k : Nat} {f : Addr} {name qual : Str} {params : Arguments} {body : List Stmt} {scope : Scope} {dV kV doc pm cdv ct oc : Value} {an od : Option Addr}
    {osl : Array (Option Value)} {N ps : List Str} {sp : Sp} (lk : K.lookup f = some ⟨oc, od, .func (PySem.W.fnOf name qual params body scope dV kV doc pm an cdv ct), osl⟩) (hcd : PySem.W.codeIn K cdv qual = true) (S : FnScope N ps scope)
    (len : ∀ vs H Q E, sp vs H Q E → vs.length = ps.length)
    (hbody : ∀ (A : Around) (outer : List Env) (s : Shared) (H : Hp) (vs : List V) (Q : VK) (E : XK), Room k (A.deeper (envOfC qual scope s.heap.objs.size f cdv)) → sp vs H Q E →
      ∃ t, PSs (cxOf CX P w K mg base N qual scope f cdv A outer s H E) body t ∧ t { nx := fun _ H' => Q .non H', rt := Q } (start N vs) H) :
    FnOk P w K mg base CX (k + 1) f (PySem.W.fnOf name qual params body scope dV kV doc pm an cdv ct) ps sp := by
  refine ⟨len, fun A outer s H args us vs Q E hr e0 hb r hsp => ?_⟩
  have hl := len _ _ _ _ hsp
  have KX : K.In s.heap := e0.mod.kin.keeps fun b o e => (e0.bs b o e).1
  have lim : s.heap.NoLimit := e0.mod.nolimit.keeps fun b o e => (e0.bs b o e).1
  have hkind : ∀ y ∈ ps.zip us, scope.names.lookup y.1 = some .local ∨ (scope.names.lookup y.1 = some .cell ∧ ((cellsFrom (s.heap.objs.size + 1) scope.names []).lookup y.1).isSome = true) := fun hx2_ hy => by
    obtain ⟨n, v⟩ := hx2_
    rcases S.par n (List.of_mem_zip hy).1 with q | q
    · exact .inl q
    · exact .inr ⟨q, PySem.W.cellsFrom_some _ _ _ (.inl q)⟩
  refine codeAny_call_function hr.depth (KX _ _ lk) rfl S.co S.gen rfl (PySem.W.codeRec_of KX hcd) (hb _ _ _ _ ?_)
  refine wpAny_newFunctionEnv_cells S.kind hkind fun env he s1 x => ?_
  subst he
  refine ⟨lim.keeps x.toInCall.keep, codeAny_func ?_⟩
  obtain ⟨t, ht, hq⟩ := hbody A outer s H vs Q E (hr.deeper _) hsp
  have I : Inv (cxOf CX P w K mg base N qual scope f cdv A outer s H E) [] (start N vs) H s1 := inv_start S hr.hd e0 hl r x
  refine wpAny_mono (ht [] s1 (start N vs) H _ I hq) (fun fl s' hs => ?_) fun e s' hs => hs
  have fin : ∀ {σ' : St} {H' : Hp} {v : V} {u : Value}, Inv (cxOf CX P w K mg base N qual scope f cdv A outer s H E) [] σ' H' s' → RelV v u → Q v H' → CE outer P w H s Q u s' :=
    fun {σ' H' v u} J rv q => ⟨v, H', J.os, J.bare, J.base, J.hok, rv, q⟩
  cases fl with
  | ret u =>
    obtain ⟨v, σ', H', J, rv, q⟩ := hs
    exact fin J rv q
  | next =>
    obtain ⟨σ', H', J, q⟩ := hs
    exact fin (v := V.non) (u := Value.none) J rfl q
  | brk =>
    obtain ⟨_, _, _, q⟩ := hs
    exact False.elim q
  | cont =>
    obtain ⟨_, _, _, q⟩ := hs
    exact False.elim q
end L2
namespace L2
open PySem PySem.Spec PyProof.Rows
section
variable {X : Cx} {x : Str} {p pos : Pos} {e : Expr} {es : List Expr} {t : TA} {id T : String} {r : List V → Hp → VK → Prop}
noncomputable def tCB (r : List V → Hp → VK → Prop) (t : TA) : TE := fun σ H Q => t σ H fun vs H1 => r vs H1 Q
theorem pe_callB (hc : CallR X (.builtin id) r) (hg : Gl X x) (hm : X.mg x = none) (hv : bootBuiltins x = some (.builtin id)) (ha : PA X (e :: es) t) (hn : x ≠ "__name__" := by decide) (hdb : (x == ("__debug__" : Str)) = false := by decide)
    (he : starEach (e :: es) X.env = (false, eval e X.env) :: starEach es X.env := by rfl) (hpl : (backTo pos (starEach es X.env)).any (·.1) = false := by rfl) : PE X (.Call (.Name x p) (e :: es) [] pos) (tCB r t) := by
  intro pins s σ H Q I h
  refine wpAny_Call_Name_kw (ld_blt I hg hm hv ?_ hn hdb)
  exact PyProof.Rows.callWith_builtin1 (thn (ha pos pins s σ H _ I h) fun us s1 ⟨vs, H1, I1, r1, q1⟩ => hc pins s1 σ H1 vs us Q I1 r1 q1) he hpl
theorem pe_callTy (hc : CallR X (.type T) r) (hg : Gl X x) (hm : X.mg x = none) (hv : bootBuiltins x = some (.type T)) (ha : PA X (e :: es) t) (hn : x ≠ "__name__" := by decide) (hdb : (x == ("__debug__" : Str)) = false := by decide)
    (he : starEach (e :: es) X.env = (false, eval e X.env) :: starEach es X.env := by rfl) (hpl : (backTo pos (starEach es X.env)).any (·.1) = false := by rfl) : PE X (.Call (.Name x p) (e :: es) [] pos) (tCB r t) := by
  intro pins s σ H Q I h
  refine wpAny_Call_Name_kw (ld_blt I hg hm hv ?_ hn hdb)
  exact PyProof.Rows.callWith_type1 (thn (ha pos pins s σ H _ I h) fun us s1 ⟨vs, H1, I1, r1, q1⟩ => hc pins s1 σ H1 vs us Q I1 r1 q1) he hpl
end
end L2
namespace HT
open PySem PyProof.Rows
section
open PySem.SeqAt
open PySem.AutoSeq1 (wpAny_loadPart')
open PySem.MeetsSeq PySem.MeetsSeq2 PySem.MeetsSeq3
end
section
variable {prog : Program} {w : World} {A : Around} {E : Value → Shared → Prop} {s : Shared}
theorem cat_tup {t b : Addr} {vs ws : List Value} {Q : Value → Shared → Prop} (ht : IsTup s.heap t vs.toArray) (hb : IsTup s.heap b ws.toArray) (hv : vs ≠ [])
    (h1 : ws = [] → Q (.ref t) s) (h2 : ws ≠ [] → Q (.ref s.heap.objs.size) { s with heap := s.heap.push { cls := .type "tuple", data := .seq (vs ++ ws).toArray } })
    (hsz : vs.length + ws.length ≤ sizeLine) : wpAny (model prog w) A (binaryOp .Add (.ref t) (.ref b)) Q E s := by
  obtain ⟨⟨cls, dd, data, sl⟩, ho, hc, n, hd⟩ := id ht
  obtain ⟨⟨cls2, dd2, data2, sl2⟩, ho2, hc2, n2, hd2⟩ := id hb
  simp only at hc hd hc2 hd2
  subst hc hd hc2 hd2
  have e : vs.toArray ++ ws.toArray = (vs ++ ws).toArray := by simp
  by_cases hw : ws = []
  · exact concat_meets ⟨_, ho, rfl⟩ ⟨_, ho2, rfl⟩ noFill_tuple_add seq_tuple_add PySem.F.slot_tuple_add PySem.F.entry_tuple_add (PySem.F.args_tuple_add_2 _ _)
      (tuple_addW1 t b vs.toArray ws.toArray n n2 dd dd2 sl sl2 (by simpa using hv) (by simp [hw])) ⟨ho, ho2, h1 hw⟩
  · refine concat_meets ⟨_, ho, rfl⟩ ⟨_, ho2, rfl⟩ noFill_tuple_add seq_tuple_add PySem.F.slot_tuple_add PySem.F.entry_tuple_add (PySem.F.args_tuple_add_2 _ _)
      (tuple_addW2 t b vs.toArray ws.toArray n n2 dd dd2 sl sl2 (by simpa using hv) (by simpa using hw) (by rw [List.size_toArray, List.size_toArray]; exact hsz)) ⟨ho, ho2, ?_⟩
    rw [e]
    exact h2 hw
noncomputable def sIx (n d : Nat) : Option Int → Nat
  | none => d
  | some v => if v < 0 then (v + (n : Int)).toNat else min v.toNat n
end
end HT
namespace L2
open PySem PySem.Spec PyProof.Rows
noncomputable abbrev TO := St → Hp → (Option Int → Hp → Prop) → Prop
noncomputable def PO (X : Cx) (e : Option Expr) (t : TO) : Prop :=
  ∀ (pins : List (Addr × Obj)) (s : Shared) (σ : St) (H : Hp) (Q : Option Int → Hp → Prop), Inv X pins σ H s → t σ H Q →
    wpAny (model X.prog X.w) X.A (evalPart e X.env) (fun u s' => ∃ o H', Inv X pins σ H' s' ∧ IsPart u o ∧ Q o H') X.xe s
section
variable {X : Cx} {e : Expr} {te : TE} {lo hi : Option Expr} {tl th : TO} {pos p2 : Pos}
noncomputable def SlR (X : Cx) (r : V → Option Int → Option Int → Hp → VK → Prop) : Prop :=
  ∀ (pins : List (Addr × Obj)) (s : Shared) (σ : St) (H : Hp) (x : V) (v vl vu : Value) (lo hi : Option Int) (sl : Addr) (Q : VK), Inv X pins σ H s → RelV x v → s.heap.IsSliceOf sl vl vu .none → IsPart vl lo → IsPart vu hi → r x lo hi H Q →
    ∃ T id, typeLookup (.type T) "__getitem__" = pure (some (.builtin id)) ∧ s.TypeIs v T ∧ wpAny (model X.prog X.w) X.A (getItem v (.ref sl)) (EP X pins σ Q) X.xe s
theorem SlR.or {r r' : V → Option Int → Option Int → Hp → VK → Prop} (h : SlR X r) (h' : SlR X r') : SlR X (fun x lo hi H Q => r x lo hi H Q ∨ r' x lo hi H Q) := by
  intro pins s σ H x v vl vu lo hi sl Q I rx hs pl pu q
  rcases q with q | q
  · exact h pins s σ H x v vl vu lo hi sl Q I rx hs pl pu q
  · exact h' pins s σ H x v vl vu lo hi sl Q I rx hs pl pu q
noncomputable def rCatT (K : PySem.W.Frag) : R2 := fun x y H Q => ∃ a b xs ys, x = .ref a ∧ y = .ref b ∧ SqT K H a xs ∧ SqT K H b ys ∧ xs ≠ [] ∧ xs.length + ys.length ≤ sizeLine ∧
  (ys = [] → Q (.ref a) H) ∧ (ys ≠ [] → ∀ p, H p = none → Q (.ref p) (upd H p (.tup (xs ++ ys))))
theorem Vals.nil_iff {xs : List V} {us : List Value} (r : Vals xs us) : us = [] ↔ xs = [] := by
  cases r with
  | nil => simp
  | cons _ _ => simp
theorem op_catT : OpR X (binaryOp .Add) (rCatT X.K) := by
  intro pins s σ H x y v u Q I rx ry h
  obtain ⟨a, b, xs, ys, rfl, rfl, ha, hb, hx, hz, q1, q2⟩ := h
  cases rx
  cases ry
  obtain ⟨its, r1, p1, _⟩ := I.tuple ha
  obtain ⟨its2, r2, p2, _⟩ := I.tuple hb
  refine HT.cat_tup p1 p2 (fun z => hx (r1.nil_iff.mp z)) (fun z => ⟨.ref a, H, I, rfl, q1 (r2.nil_iff.mp z)⟩) (fun z => ?_) (by rw [← r1.length, ← r2.length]; exact hz)
  refine ⟨.ref s.heap.objs.size, _, I.laid (t' := s.toks) (o := .tup (xs ++ ys)) (fun b ob q => Heap.get?_push_of_some _ q) (Nat.le_refl _) ?_, rfl, q2 (fun w => z (r2.nil_iff.mpr w)) _ (I.hok.fresh (Nat.le_refl _))⟩
  exact ⟨by rw [List.length_append]; exact hz, _, r1.append r2, IsTup.new _ _⟩
end
end L2
namespace L2
open PySem PySem.Spec PyProof.Rows
noncomputable def ixN (n : Nat) (i : Int) : Option Nat := if 0 ≤ i then (if i < n then some i.toNat else none) else if -(n : Int) ≤ i then some (i + n).toNat else none
noncomputable def atI {α : Type} (xs : List α) (i : Int) : Option α := (ixN xs.length i).bind fun j => xs[j]?
theorem ixN_seq {n : Nat} {i : Int} {j : Nat} (h : ixN n i = some j) : seqIndex? i n = some j ∧ j < n ∧ -(n : Int) ≤ i ∧ i < n := by
  unfold ixN at h
  by_cases h0 : 0 ≤ i
  · rw [if_pos h0] at h
    by_cases h1 : i < n
    · rw [if_pos h1] at h
      have e : i.toNat = j := Option.some.inj h
      exact ⟨by rw [seqIndex_of h0 h1, e], by omega, by omega, h1⟩
    · rw [if_neg h1] at h; cases h
  · rw [if_neg h0] at h
    by_cases h1 : -(n : Int) ≤ i
    · rw [if_pos h1] at h
      have e : (i + n).toNat = j := Option.some.inj h
      exact ⟨by rw [seqIndex_neg (by omega) h1, e], by omega, h1, by omega⟩
    · rw [if_neg h1] at h; cases h
theorem atI_get {α : Type} {xs : List α} {i : Int} {v : α} (h : atI xs i = some v) : ∃ j, seqIndex? i xs.length = some j ∧ xs[j]? = some v ∧ j < xs.length ∧ -(xs.length : Int) ≤ i ∧ i < xs.length := by
  unfold atI at h
  cases e : ixN xs.length i with
  | none => rw [e] at h; cases h
  | some j =>
    rw [e] at h
    obtain ⟨h1, h2, h3, h4⟩ := ixN_seq e
    exact ⟨j, h1, h, h2, h3, h4⟩
noncomputable def PlainIx (b : Expr) : Prop := ∀ o i, subscripted b false o i = operate [o, i] (getItem o i)
noncomputable def IxR (X : Cx) (r : R2) : Prop :=
  ∀ (value slice : Expr) (pins : List (Addr × Obj)) (s : Shared) (σ : St) (H : Hp) (x y : V) (v u : Value) (Q : VK), Inv X pins σ H s → RelV x v → RelV y u → r x y H Q →
    subscripted slice false v u = operate [v, u] (getItem v u) → wpAny (model X.prog X.w) X.A (subscriptTail value slice v u) (EP X pins σ Q) X.xe s
noncomputable def MtR (X : Cx) (id : String) (r : V → List V → Hp → VK → Prop) : Prop :=
  ∀ (pins : List (Addr × Obj)) (s : Shared) (σ : St) (H : Hp) (x : V) (xs : List V) (v : Value) (us : List Value) (Q : VK), Inv X pins σ H s → RelV x v → Vals xs us → r x xs H Q →
    wpAny (model X.prog X.w) X.A (call (.builtin id) (v :: us)) (EP X pins σ Q) X.xe s
section
variable {X : Cx} {a b : Expr} {ta tb : TE} {pos : Pos}
theorem IxR.or {r r' : R2} (h : IxR X r) (h' : IxR X r') : IxR X (fun x y H Q => r x y H Q ∨ r' x y H Q) := by
  intro value slice pins s σ H x y v u Q I rx ry q hs
  rcases q with q | q
  · exact h value slice pins s σ H x y v u Q I rx ry q hs
  · exact h' value slice pins s σ H x y v u Q I rx ry q hs
theorem MtR.or {id : String} {r r' : V → List V → Hp → VK → Prop} (h : MtR X id r) (h' : MtR X id r') : MtR X id (fun x xs H Q => r x xs H Q ∨ r' x xs H Q) := by
  intro pins s σ H x xs v us Q I rx rs q
  rcases q with q | q
  · exact h pins s σ H x xs v us Q I rx rs q
  · exact h' pins s σ H x xs v us Q I rx rs q
theorem pe_ix {r : R2} (hr : IxR X r) (ha : PE X a ta) (hb : PE X b tb) (hs : PlainIx b) : PE X (.Subscript a b pos) (tOp r ta tb) := by
  intro pins s σ H Q I h
  exact Subscript_ (binT ha hb I h fun v u s2 x y H2 I2 rx ry q => hr a b pins s2 σ H2 x y v u Q I2 rx ry q (hs _ _))
noncomputable def rIxL (K : PySem.W.Frag) : R2 := fun x y H Q => ∃ p xs i v, x = .ref p ∧ y = .int i ∧ SqL K H p xs ∧ atI xs i = some v ∧ Q v H
noncomputable def rIxT (K : PySem.W.Frag) : R2 := fun x y H Q => ∃ p xs i v, x = .ref p ∧ y = .int i ∧ SqT K H p xs ∧ atI xs i = some v ∧ Q v H
noncomputable def rIxS : R2 := fun x y H Q => ∃ z i c, x = .str z ∧ y = .int i ∧ z.length ≤ sizeLine ∧ atI z.cps.toList i = some c ∧ Q (.str ⟨#[c]⟩) H
theorem ix_list : IxR X (rIxL X.K) := by
  intro value slice pins s σ H x y v u Q I rx ry h hs
  obtain ⟨p, xs, i, z, rfl, rfl, hq, he, q⟩ := h
  cases rx
  obtain ⟨t, rfl⟩ := ry
  obtain ⟨its, r, pl, hz⟩ := I.list hq
  obtain ⟨j, h1, h2, h3, h4, h5⟩ := atI_get he
  obtain ⟨w, ew, rw'⟩ := r.get h2
  have hl := r.length
  have hn := line63
  have fin : EP X pins σ Q w s := ⟨z, H, I, rw', q⟩
  by_cases h0 : 0 ≤ i
  · have hj : i.toNat = j := by
      rw [seqIndex_of h0 h5] at h1
      exact Option.some.inj h1
    exact item_listR pl.isList h0 (by omega) (by rw [hj]; simpa using ew) fin hs
  · have hj : (i + (its.toArray.size : Int)).toNat = j := by
      rw [seqIndex_neg (by omega) h4] at h1
      rw [List.size_toArray, ← hl]
      exact Option.some.inj h1
    exact subscriptTail_builtinR (x := w) pl.isList.typeIs slot_list_getitem.lookup
      (wpAny_getItem_list_neg (Q := fun r s' => r = w ∧ EP X pins σ Q r s') pl.isList (by omega) (by rw [List.size_toArray] <;> omega) (by omega) (by rw [hj]; simpa using ew) ⟨rfl, fin⟩) hs
theorem ix_tup : IxR X (rIxT X.K) := by
  intro value slice pins s σ H x y v u Q I rx ry h hs
  obtain ⟨p, xs, i, z, rfl, rfl, hq, he, q⟩ := h
  cases rx
  obtain ⟨t, rfl⟩ := ry
  obtain ⟨its, r, pl, hz⟩ := I.tuple hq
  obtain ⟨j, h1, h2, h3, h4, h5⟩ := atI_get he
  obtain ⟨w, ew, rw'⟩ := r.get h2
  have hl := r.length
  have hn := line63
  have fin : EP X pins σ Q w s := ⟨z, H, I, rw', q⟩
  exact subscriptTail_builtinR (x := w) pl.typeIs slot_tuple_getitem.lookup
    (getItem_tuple (j := j) (Q := fun r s' => r = w ∧ EP X pins σ Q r s') pl (by omega) (by omega) (by rw [List.size_toArray, ← hl]; exact h1) (by simpa using ew) ⟨rfl, fin⟩) hs
theorem ix_str : IxR X rIxS := by
  intro value slice pins s σ H x y v u Q I rx ry h hs
  obtain ⟨z, i, c, rfl, rfl, hz, he, q⟩ := h
  obtain ⟨t, rfl⟩ := rx
  obtain ⟨t', rfl⟩ := ry
  obtain ⟨j, h1, h2, h3, h4, h5⟩ := atI_get he
  have hl : z.cps.toList.length = z.length := by simp [Str.length]
  rw [hl] at h1 h4 h5
  have hn := line63
  exact tail_any (typeIs_str s z t) slot_str_getitem.lookup (getItem_str (c := c) (by
    have e1 : decide (i < -(2 ^ 63 : Int)) = false := decide_eq_false (by omega)
    have e2 : decide (i ≥ 2 ^ 63) = false := decide_eq_false (by omega)
    rw [e1, e2, Bool.or_false]) (by rw [h1]; simpa using h2) ⟨.str ⟨#[c]⟩, H, I.tok _, ⟨_, rfl⟩, q⟩) hs
noncomputable def rIx (K : PySem.W.Frag) : R2 := fun x y H Q => rIxL K x y H Q ∨ rIxT K x y H Q ∨ rIxS x y H Q
theorem ix_seq : IxR X (rIx X.K) := ix_list.or (ix_tup.or ix_str)
theorem mapSeq_set (its : List Value) (n j : Nat) (u : Value) : Obj.mapSeq (·.setIfInBounds j u) { cls := .type "list", data := .seq its.toArray n } = { cls := .type "list", data := .seq (its.set j u).toArray n } := by
  simp [Obj.mapSeq]
theorem Inv.lst {pins : List (Addr × Obj)} {σ : St} {H : Hp} {s : Shared} {p : Addr} {xs : List V} (I : Inv X pins σ H s) (h : H p = some (.lst xs)) :
    ∃ (its : List Value) (n : Nat), Vals xs its ∧ s.heap.get? p = some { cls := .type "list", data := .seq its.toArray n } ∧ xs.length ≤ sizeLine := by
  obtain ⟨z, its, n, r, e⟩ := I.hok p _ h
  exact ⟨its, n, r, e, z⟩
theorem Inv.lstUpd {pins : List (Addr × Obj)} {σ : St} {H : Hp} {s : Shared} {p : Addr} {xs ys : List V} {its its' : List Value} {n n' : Nat} {f : Obj → Obj} (I : Inv X pins σ H s) (h : H p = some (.lst xs))
    (ho : s.heap.get? p = some { cls := .type "list", data := .seq its.toArray n }) (hf : f { cls := .type "list", data := .seq its.toArray n } = { cls := .type "list", data := .seq its'.toArray n' }) (r : Vals ys its') (hz : ys.length ≤ sizeLine) (t : Nat) :
    Inv X pins σ (upd H p (.lst ys)) { s with heap := s.heap.update p f, toks := t } := by
  have e : (s.heap.update p f).get? p = some { cls := .type "list", data := .seq its'.toArray n' } := by
    rw [Heap.get?_update_self f ho (by rw [hf] <;> rfl), hf]
  refine I.write (x := p) (e := p) (by rw [h]; trivial) (.inl rfl) (fun b u hb q => (Heap.get?_update_other _ _ (Ne.symm hb)).trans q) ⟨_, e⟩ ?_
  exact ⟨hz, its', n', r, e⟩
noncomputable def rSetL : V → V → V → Hp → (Hp → Prop) → Prop := fun o i v H Q => ∃ p xs k j, o = .ref p ∧ i = .int k ∧ H p = some (.lst xs) ∧ ixN xs.length k = some j ∧ Q (upd H p (.lst (xs.set j v)))
theorem set_list : PSet X rSetL := by
  intro pins s σ H o i v ov iv u Q I ro ri rv h
  obtain ⟨p, xs, k, j, rfl, rfl, hp, hj, q⟩ := h
  cases ro
  obtain ⟨t, rfl⟩ := ri
  obtain ⟨its, n, r, ho, hz⟩ := I.lst hp
  obtain ⟨h1, h2, h3, h4⟩ := ixN_seq hj
  have hl := r.length
  have hn := line63
  have I' : Inv X pins σ (upd H p (.lst (xs.set j v))) { s with heap := s.heap.update p (Obj.mapSeq (·.setIfInBounds j u)) } :=
    I.lstUpd hp ho (mapSeq_set its n j u) (r.set rv j) (by rw [List.length_set]; exact hz) s.toks
  by_cases h0 : 0 ≤ k
  · have hk : k.toNat = j := by
      rw [seqIndex_of h0 h4] at h1
      exact Option.some.inj h1
    exact PySem.W.ki_setAt ho h0 (by omega) (by rw [List.size_toArray, ← hl]; exact h4) (by rw [hk]; exact ⟨_, I', q⟩)
  · have hk : (k + (its.toArray.size : Int)).toNat = j := by
      rw [seqIndex_neg (by omega) h3] at h1
      rw [List.size_toArray, ← hl]
      exact Option.some.inj h1
    exact PySem.W.ki_setBack ho (by omega) (by rw [List.size_toArray, ← hl]; exact h3) (by omega) (by rw [hk]; exact ⟨_, I', q⟩)
theorem call_len_seq : CallR X (.builtin "len") (fun xs H Q => ∃ p ys, xs = [.ref p] ∧ (SqL X.K H p ys ∨ SqT X.K H p ys) ∧ Q (.int ys.length) H) := by
  intro pins s σ H xs us Q I r h
  obtain ⟨p, ys, rfl, hq, q⟩ := h
  obtain ⟨u, rfl, rx⟩ := vals1 r
  cases rx
  have hn := line63
  rcases hq with hq | hq
  · obtain ⟨its, r', pl, hz⟩ := I.list hq
    have hlen := r'.length
    exact Calls.call_len_list pl.isList (by simp only [List.size_toArray] <;> omega) ⟨.int ys.length, H, I.tok _, ⟨s.toks + 1, by rw [List.size_toArray, hlen]⟩, q⟩
  · obtain ⟨its, r', pl, hz⟩ := I.tuple hq
    have hlen := r'.length
    exact len_tuple pl (by simp only [List.size_toArray] <;> omega) ⟨.int ys.length, H, I.tok _, ⟨s.toks + 1, by rw [List.size_toArray, hlen]⟩, q⟩
theorem call_len_str : CallR X (.builtin "len") (fun xs H Q => ∃ z, xs = [.str z] ∧ z.length ≤ sizeLine ∧ Q (.int z.length) H) := by
  intro pins s σ H xs us Q I r h
  obtain ⟨z, rfl, hz, q⟩ := h
  obtain ⟨u, rfl, t, rfl⟩ := vals1 r
  have hn := line63
  exact len_str (by omega) ⟨.int z.length, H, I.tok _, ⟨_, rfl⟩, q⟩
theorem CallR.or {f : Value} {r r' : List V → Hp → VK → Prop} (h : CallR X f r) (h' : CallR X f r') : CallR X f (fun xs H Q => r xs H Q ∨ r' xs H Q) := by
  intro pins s σ H xs us Q I rs q
  rcases q with q | q
  · exact h pins s σ H xs us Q I rs q
  · exact h' pins s σ H xs us Q I rs q
theorem call_list_of : CallR X (.type "list") (fun xs H Q => ∃ p ys, xs = [.ref p] ∧ (SqL X.K H p ys ∨ SqT X.K H p ys) ∧ ∀ l, H l = none → Q (.ref l) (upd H l (.lst ys))) := by
  intro pins s σ H xs us Q I r h
  obtain ⟨p, ys, rfl, hq, q⟩ := h
  obtain ⟨u, rfl, rx⟩ := vals1 r
  cases rx
  have fin : ∀ (its : List Value), Vals ys its → ys.length ≤ sizeLine → ∀ (h' : Heap) (c' : Nat), (∀ b o', s.heap.get? b = some o' → h'.get? b = some o') →
      h'.get? s.heap.objs.size = some { cls := .type "list", dict := none, data := .seq its.toArray c', slots := #[] } → EP X pins σ Q (.ref s.heap.objs.size) { s with heap := h' } := fun its r' hz h' c' kp e =>
    ⟨.ref s.heap.objs.size, _, I.laid (t' := s.toks) kp (Nat.le_refl _) (show ObjOk X.prog X.w _ h' _ (.lst ys) from ⟨hz, its, c', r', e⟩), rfl, q _ (I.hok.fresh (Nat.le_refl _))⟩
  rcases hq with hq | hq
  · obtain ⟨its, r', pl, hz⟩ := I.list hq
    have hlen := r'.length
    obtain ⟨o, ho, hc, n, hd⟩ := pl.isList
    exact call_list_seq p (.inl rfl) ho hc hd (fun h' c' kp e => fin its r' hz h' c' kp e) (by simp only [List.size_toArray] <;> omega)
  · obtain ⟨its, r', pl, hz⟩ := I.tuple hq
    have hlen := r'.length
    obtain ⟨o, ho, hc, n, hd⟩ := pl
    exact call_list_seq p (.inr rfl) ho hc hd (fun h' c' kp e => fin its r' hz h' c' kp e) (by simp only [List.size_toArray] <;> omega)
theorem call_tuple_of : CallR X (.type "tuple") (fun xs H Q => ∃ p ys, xs = [.ref p] ∧ ((SqL X.K H p ys ∧ ∀ l, H l = none → Q (.ref l) (upd H l (.tup ys))) ∨ (SqT X.K H p ys ∧ Q (.ref p) H))) := by
  intro pins s σ H xs us Q I r h
  obtain ⟨p, ys, rfl, h⟩ := h
  obtain ⟨u, rfl, rx⟩ := vals1 r
  cases rx
  rcases h with ⟨hq, q⟩ | ⟨hq, q⟩
  · obtain ⟨its, r', pl, hz⟩ := I.list hq
    have hlen := r'.length
    refine call_tuple_list pl.isList (fun h' kp => ?_) (by simp only [List.size_toArray] <;> omega)
    have I1 : Inv X pins σ H { s with heap := h' } := I.kept (t' := s.toks) kp
    have I2 : Inv X pins σ (upd H h'.objs.size (.tup ys)) { s with heap := h'.push { cls := .type "tuple", data := .seq its.toArray } } :=
      I1.laid (t' := s.toks) (fun b o e => Heap.get?_push_of_some _ e) (Nat.le_refl _) (show ObjOk X.prog X.w _ _ _ (.tup ys) from ⟨hz, its, r', IsTup.new _ _⟩)
    exact ⟨.ref h'.objs.size, _, I2, rfl, q _ (I1.hok.fresh (Nat.le_refl _))⟩
  · obtain ⟨its, r', pl, hz⟩ := I.tuple hq
    exact call_tuple_same pl ⟨.ref p, H, I, rfl, q⟩
noncomputable def tyV (K : PySem.W.Frag) (T : String) (x : V) (H : Hp) : Prop := match x with
  | .str _ => T = "str"
  | .int _ => T = "int"
  | .ref p => (T = "list" ∧ ∃ xs, SqL K H p xs) ∨ (T = "tuple" ∧ ∃ o, K.lookup p = some o ∧ o.cls = .type "tuple" ∧ o.dict = none) ∨
      (T = "dict" ∧ ((∃ kvs, H p = some (.dK kvs)) ∨ ∃ kvs, H p = some (.dT kvs))) ∨ (T = "set" ∧ ∃ S n, H p = some (.set S n))
  | _ => False
theorem tyV_is {pins : List (Addr × Obj)} {σ : St} {H : Hp} {s : Shared} {T : String} {x : V} {v : Value} (I : Inv X pins σ H s) (r : RelV x v) (ty : tyV X.K T x H) :
    s.TypeIs v T ∧ ∀ a, v = .ref a → ∃ ob, s.heap.get? a = some ob ∧ ob.dict = none := by
  cases x with
  | str z =>
    obtain ⟨t, rfl⟩ := r
    cases (show T = "str" from ty)
    exact ⟨typeIs_str s z t, fun _ e => nomatch e⟩
  | int i =>
    obtain ⟨t, rfl⟩ := r
    cases (show T = "int" from ty)
    exact ⟨typeIs_int s i t, fun _ e => nomatch e⟩
  | ref p =>
    cases r
    rcases ty with ⟨rfl, xs, hq⟩ | ⟨rfl, o, hk, hc, hd⟩ | ⟨rfl, hk⟩ | ⟨rfl, S, n, hk⟩
    · obtain ⟨its, _, pl, _⟩ := I.list hq
      refine ⟨pl.isList.typeIs, fun a e => ?_⟩
      cases e
      obtain ⟨o, n, e, c, hd, _⟩ := pl
      exact ⟨o, e, hd⟩
    · refine ⟨⟨o, I.kIn p o hk, hc⟩, fun a e => ?_⟩
      cases e
      exact ⟨o, I.kIn _ o hk, hd⟩
    · have z : ∃ o, s.heap.get? p = some o ∧ o.ExactDict := by
        rcases hk with ⟨kvs, hk⟩ | ⟨kvs, hk⟩
        · obtain ⟨_, _, _, _, o, _, _, e, ex, _⟩ := I.hok p _ hk
          exact ⟨o, e, ex⟩
        · obtain ⟨_, _, _, _, o, _, _, e, ex, _⟩ := I.hok p _ hk
          exact ⟨o, e, ex⟩
      obtain ⟨o, e, ex⟩ := z
      refine ⟨⟨o, e, ex.1⟩, fun a e2 => ?_⟩
      cases e2
      exact ⟨o, e, ex.2.1⟩
    · obtain ⟨o, _, _, _, e, ex, _⟩ := I.hok p _ hk
      refine ⟨⟨o, e, ex.1⟩, fun a e2 => ?_⟩
      cases e2
      exact ⟨o, e, ex.2.1⟩
  | _ => exact False.elim ty
noncomputable def tBM (K : PySem.W.Frag) (T : String) (r : V → List V → Hp → VK → Prop) (to : TE) (t : TA) : TE := fun σ H Q => to σ H fun x H1 => tyV K T x H1 ∧ t σ H1 fun xs H2 => r x xs H2 Q
variable {o e : Expr} {es : List Expr} {to : TE} {t : TA} {name : Str} {apos cpos : Pos} {T id : String} {r : V → List V → Hp → VK → Prop}
theorem pe_bm (pa : PlainAttrs T) (slot : Slot T name id) (hty : typeOf (.builtin id) = pure (.type "method_descriptor")) (hm : MtR X id r) (ho : PE X o to) (ha : PA X (e :: es) t)
    (hbase : attributeBase o name X.env (eval o X.env) = eval o X.env := by rfl)
    (hfew : ((backTo cpos (starEach (e :: es) X.env)).all (fun x => !x.1) && (backToKw cpos (keywordEach [] X.env)).all (fun x => x.1.isSome)
      && decide ((e :: es).length + ([] : List Keyword).length + (if ([] : List Keyword).isEmpty then 0 else 1) < 30)) = true := by rfl)
    (hline : (apos.endLine == cpos.line) = true := by rfl) (hs : starEach (e :: es) X.env = (false, eval e X.env) :: starEach es X.env := by rfl) (hplain : (backTo cpos (starEach es X.env)).any (·.1) = false := by rfl) :
    PE X (.Call (.Attribute o name apos) (e :: es) [] cpos) (tBM X.K T r to t) := by
  intro pins s σ H Q I h
  refine wpAny_Call_method_late hbase hfew hline rfl (thn (ho pins s σ H _ I h) fun v s1 ⟨x, H1, I1, r1, ty, q1⟩ => ?_)
  obtain ⟨h1, h2⟩ := tyV_is I1 r1 ty
  refine ⟨T, id, pa, slot, hty, h1, h2, ?_⟩
  have hA := ha cpos pins s1 σ H1 _ I1 q1
  rw [hs] at hA ⊢
  refine Calls.callWith_builtin (by show (false || (backTo cpos (starEach es X.env)).any (·.1)) = false; rw [hplain] <;> rfl) (Calls.evalArgs_plain ?_)
  exact thn hA fun us s2 ⟨vs, H2, I2, r2, q2⟩ => hm pins s2 σ H2 x vs v us Q I2 r1 r2 q2
end
end L2
namespace L2
open PySem PySem.Spec PyProof.Rows
noncomputable def MtM (X : Cx) (id : String) (r : V → List V → Hp → VK → Prop) : Prop :=
  ∀ (pins : List (Addr × Obj)) (s : Shared) (σ : St) (H : Hp) (x : V) (xs : List V) (v : Value) (us : List Value) (Q : VK), Inv X pins σ H s → RelV x v → Vals xs us → r x xs H Q →
    wpAny (model X.prog X.w) X.A (call (.builtin id) (v :: us)) (EP X pins σ Q) X.xe s
theorem Vals.one : ∀ {x : V} {us : List Value}, Vals [x] us → ∃ u, us = [u] ∧ RelV x u
  | _, _, .cons r .nil => ⟨_, rfl, r⟩
theorem Vals.two {x y : V} {us : List Value} (h : Vals [x, y] us) : ∃ u v, us = [u, v] ∧ RelV x u ∧ RelV y v := by
  cases h with
  | cons r t =>
    cases t with
    | cons q t2 => cases t2; exact ⟨_, _, rfl, r, q⟩
theorem Vals.zero : ∀ {us : List Value}, Vals [] us → us = []
  | _, .nil => rfl
theorem Vals.dropLast {xs : List V} {us : List Value} (h : Vals xs us) : Vals xs.dropLast us.dropLast := by
  induction h with
  | nil => exact .nil
  | cons r t ih =>
    cases t with
    | nil => exact .nil
    | cons q t' => exact .cons r ih
theorem Vals.rep {xs : List V} {us : List Value} (h : Vals xs us) : ∀ k : Nat, Vals (List.replicate k xs).flatten (List.replicate k us).flatten
  | 0 => .nil
  | k + 1 => by
    rw [List.replicate_succ, List.replicate_succ, List.flatten_cons, List.flatten_cons]
    exact Vals.append h (Vals.rep h k)
theorem foldl_rep (its : List Value) : ∀ (k : Nat) (acc : List Value),
    List.foldl (fun x1 x2 => x1 ++ x2) acc.toArray (List.replicate k its.toArray) = (acc ++ (List.replicate k its).flatten).toArray
  | 0, acc => by simp
  | k + 1, acc => by
    have e : acc.toArray ++ its.toArray = (acc ++ its).toArray := by simp
    have e2 : (acc ++ its) ++ (List.replicate k its).flatten = acc ++ (List.replicate (k + 1) its).flatten := by
      rw [List.replicate_succ, List.flatten_cons, List.append_assoc]
    rw [← e2, ← foldl_rep its k (acc ++ its), ← e, List.replicate_succ, List.foldl_cons]
section
variable {X : Cx} {pins : List (Addr × Obj)} {σ : St} {H : Hp} {s : Shared} {l b : Addr} {xs ys zs : List V}
theorem Inv.lset {its its' : List Value} {n : Nat} {f : Array Value → Array Value} {t' : Nat} (I : Inv X pins σ H s) (hH : H l = some (.lst xs))
    (e : s.heap.get? l = some { cls := .type "list", data := .seq its.toArray n }) (hf : f its.toArray = its'.toArray) (hv : Vals ys its') (hz : ys.length ≤ sizeLine) :
    Inv X pins σ (upd H l (.lst ys)) { s with heap := s.heap.update l (Obj.mapSeq f), toks := t' } := by
  have q := PySem.IsL.update e f
  rw [hf] at q
  refine I.write (x := l) (e := l) (by rw [hH]; exact trivial) (.inl rfl) (fun b' u hb hu => (Heap.get?_update_other s.heap (Obj.mapSeq f) (Ne.symm hb)).trans hu) ⟨_, q⟩ ?_
  exact ⟨hz, its', _, hv, q⟩
theorem Inv.lnew {its : List Value} {t' : Nat} (I : Inv X pins σ H s) (hv : Vals ys its) (hz : ys.length ≤ sizeLine) :
    Inv X pins σ (upd H s.heap.objs.size (.lst ys)) { s with heap := s.heap.push { cls := .type "list", data := .seq its.toArray }, toks := t' } :=
  I.laid (fun _ _ q => Heap.get?_push_of_some _ q) (Nat.le_refl _) ⟨hz, its, 0, hv, Heap.get?_push_size _ rfl⟩
theorem Inv.fresh (I : Inv X pins σ H s) : H s.heap.objs.size = none := I.hok.fresh (Nat.le_refl _)
theorem Inv.lstM (I : Inv X pins σ H s) (hH : H l = some (.lst xs)) : xs.length ≤ sizeLine ∧ ∃ (its : List Value) (n : Nat), Vals xs its ∧ xs.length = its.length ∧ s.heap.get? l = some { cls := .type "list", data := .seq its.toArray n } := by
  obtain ⟨z, its, n, r, e⟩ := I.hok l _ hH
  exact ⟨z, its, n, r, r.length, e⟩
end
section
variable {X : Cx}
noncomputable def rAppend : V → List V → Hp → VK → Prop := fun x vs H Q => ∃ l xs y, x = .ref l ∧ vs = [y] ∧ H l = some (.lst xs) ∧ xs.length < sizeLine ∧ Q .non (upd H l (.lst (xs ++ [y])))
theorem mt_append : MtM X "list.append" rAppend := by
  intro pins s σ H x vs v us Q I rx rv h
  obtain ⟨l, xs, y, rfl, rfl, hH, hz, q⟩ := h
  cases rx
  obtain ⟨u, rfl, ru⟩ := rv.one
  obtain ⟨z, its, n, r, hl, e⟩ := I.lstM hH
  refine call_meets F.slot_list_append ⟨_, e, rfl⟩ F.entry_list_append (F.args_list_append_2 _ _) (PySem.list_append l its.toArray n u (by rw [List.size_toArray]; omega)) ⟨e, ?_⟩
  refine ⟨.non, _, I.lset (its' := its ++ [u]) hH e (by simp) (r.append (.cons ru .nil)) ?_, rfl, q⟩
  rw [List.length_append, List.length_singleton]
  omega
noncomputable def rCat : R2 := fun x y H Q => ∃ l b xs zs, x = .ref l ∧ y = .ref b ∧ H l = some (.lst xs) ∧ H b = some (.lst zs) ∧ xs.length + zs.length ≤ sizeLine ∧ ∀ p, H p = none → Q (.ref p) (upd H p (.lst (xs ++ zs)))
theorem op_cat : OpR X (binaryOp .Add) rCat := by
  intro pins s σ H x y v u Q I rx ry h
  obtain ⟨l, b, xs, zs, rfl, rfl, hH, hB, hz, q⟩ := h
  cases rx
  cases ry
  obtain ⟨z, its, n, r, hl, e⟩ := I.lstM hH
  obtain ⟨z2, its2, n2, r2, hl2, e2⟩ := I.lstM hB
  refine PySem.P.add_list e e2 ?_ (by rw [List.size_toArray, List.size_toArray]; omega)
  have ea : its.toArray ++ its2.toArray = (its ++ its2).toArray := by simp
  rw [ea]
  exact ⟨.ref _, _, I.lnew (t' := s.toks) (r.append r2) (by rw [List.length_append]; omega), rfl, q _ I.fresh⟩
theorem len_rep {α : Type} (xs : List α) (k : Nat) : (List.replicate k xs).flatten.length = k * xs.length := by
  induction k with
  | zero => simp
  | succ k ih => rw [List.replicate_succ, List.flatten_cons, List.length_append, ih, Nat.succ_mul, Nat.add_comm]
end
section
variable {prog : Program} {w : World} {A : Around} {E : Value → Shared → Prop} {s : Shared}
end
section
variable {X : Cx}
end
end L2
namespace Att
open PySem PySem.W PySem.Calls PyProof.Rows
theorem ints_of_wellAll {P : Params} {h : Heap} : ∀ (ns : List Int) (vs : List Value), WellAll P h vs (ns.map WData.int) → IntsAre vs ns := by
  intro ns
  induction ns with
  | nil =>
    intro vs w
    rw [List.map_nil] at w
    cases w
    exact .nil
  | cons n ns ih =>
    intro vs w
    rw [List.map_cons] at w
    cases w with
    | cons a b =>
      cases a
      exact .cons _ _ (ih _ b)
theorem script_of {l : OpenLaw} {n : Nat} (hn : l.most = some n) {P : Params} {h : Heap} {args : List WData} {vals : List Value}
    (hpre : l.row.toRowW.claim.pre args = true) (hwl : WellAll P h vals args) :
    ∃ a vs ns, vals = [Value.ref a] ∧ args = [WData.list (ns.map WData.int)] ∧ h.get? a = some { cls := .type "list", data := .seq vs.toArray } ∧ IntsAre vs ns ∧ ns.length ≤ n := by
  have hsh : WShape.hasAll [] args [.list .int] = true := (pre_splitW hpre).1
  have hc : l.pre.holds [] { args := args } = true := (pre_splitW hpre).2
  obtain ⟨d, r, rfl, h1, h2⟩ := hasAllW_cons hsh
  obtain rfl := hasAllW_nil h2
  obtain ⟨xs, rfl, h3⟩ := hasW_list h1
  obtain ⟨ns, rfl⟩ := items_int h3
  have hlen : ns.length ≤ n := by
    unfold OpenLaw.pre at hc
    have h4 : (WTm.not (.lt (.lit (.int (n : Int))) (.len (.arg 0)))).holds [] { args := [.list (ns.map .int)] } = true := by
      have h4 := (holds_andW hc).1
      rw [hn] at h4
      exact h4
    have h5 := condW_of h4 (w_not (w_lt w_lit (w_len_list (w_arg rfl))))
    rw [List.length_map] at h5
    refine Nat.le_of_not_lt fun q => ?_
    have q' : (n : Int) < ((ns.length : Nat) : Int) := by omega
    first
      | (rw [decide_eq_true q'] at h5; exact absurd h5 (by decide))
      | (simp at h5; omega)
  cases hwl with
  | cons w1 w2 =>
    cases w2
    cases w1 with
    | list ho hall => exact ⟨_, _, ns, rfl, rfl, ho, ints_of_wellAll ns _ hall, hlen⟩
theorem post_true (l : OpenLaw) (args : List WData) : l.row.toRowW.claim.post args (.bool true) args = true :=
  postW_of (r := l.row.toRowW) (X := (true == true))
    (show WShape.has [] (.bool true) .bool = true by first | rfl | decide | simp [WShape.has, WShape.arms, WShape.armsAll])
    (show (WTm.eq .res (.lit (.bool true))).value [] { args := args, res := some (.bool true), after := args } = some (.bool (true == true)) from w_eq_bool (w_res rfl) w_lit) rfl
theorem attach_call {l : OpenLaw} {n : Nat} {q : Program} {loose : List Str} {XP : (Str → Option Value) → Heap → Prop} {YP : World → Heap → Prop} {d : DefRec}
    (hn : l.most = some n) (hdf : d.params.defaults = [])
    (call : ∀ (w : World) (s₀ s₁ : Shared) (mg mb : Str → Option Value) (fa : Addr) (o : Obj) (pm cd doc : Value) (a : Addr) (vs : List Value) (ns : List Int),
      Ground q loose [] XP w s₀ mg mb s₁.heap → YP w s₁.heap →
      s₁.heap.get? fa = some o → o.data = .func (docDef d.name d.params d.body d.scope pm cd doc) → s₁.heap.CodeRec cd d.name → mg d.name = some (.ref fa) →
      s₁.heap.get? a = some { cls := .type "list", data := .seq vs.toArray } → IntsAre vs ns → ns.length ≤ n → s₁.gens = #[] →
      codeAny (model l.prog w) callerA (.call (.ref fa) ⟨[.ref a], []⟩) (fun r s' => r = .ok (.ret (.bool true)) ∧ OldK s₁.heap s'.heap ∧ s'.os = s₁.os ∧ AllBare s'.gens) s₁) :
    WalkO q loose XP YP l.row.toRowW d [] (fun f vs => PySem.call f vs) := by
  intro w s₀ s₁ mg mb G Y fa o pm cd doc dV kV ho hd hcd hD hmg hg args vals as hpre hlay hrd hwl hlo
  obtain rfl : dV = .none := Dflts.none hD hdf
  obtain rfl : kV = .none := Dflts.noKw hD
  obtain ⟨a, vs, ns, rfl, rfl, hobj, hints, hlen⟩ := script_of hn hpre hwl
  refine enter_call (codeAny_mono (call w s₀ s₁ mg mb fa o pm cd doc a vs ns G Y ho (fd_plain hd) hcd hmg hobj hints hlen hg) fun r s' hq => ?_)
  obtain ⟨rfl, h2, h3, h4⟩ := hq
  exact ⟨.inl ⟨.bool true, .bool true, [], rfl, fun _ => rfl, .bool true, post_true l _, fun _ => ⟨List.Pairwise.nil, fun _ hm => (nomatch hm)⟩⟩, h2, h3, h4⟩
section
variable {prog : Program} {w : World} {A : Around} {E : Value → Shared → Prop} {s : Shared} {K : Frag}
end
end Att
namespace L2
open PySem PySem.Spec PyProof.Rows
theorem vals_ints : ∀ {vs : List Value} {ns : List Int}, IntsAre vs ns → Vals (ns.map V.int) vs
  | _, _, .nil => .nil
  | _, _, .cons n t h => .cons ⟨t, rfl⟩ (vals_ints h)
noncomputable def Only (H : Hp) : Prop := ∀ b, H b = none ∨ ∃ o xs, H b = some (.frz o (.lst xs))
theorem law_call {P : Program} {w : World} {K : PySem.W.Frag} {mg mb : Str → Option Value} {CX : CXT} {k : Nat} {fa a : Addr} {fd : FuncData} {x : Str} {sp : Sp} {s₁ : Shared} {vs : List Value} {ns : List Int}
    (KX : K.In s₁.heap) (hns : s₁.heap.Ns mainGlobals mg) (hb : s₁.heap.Ns builtinsNs mb) (hbb : ∀ x : Str, x ≠ "__name__" → mb x = bootBuiltins x) (hlim : s₁.heap.NoLimit) (hg : s₁.gens = #[])
    (ha : s₁.heap.get? a = some { cls := .type "list", data := .seq vs.toArray }) (hi : IntsAre vs ns) (hl : ns.length ≤ sizeLine) (hr : Room k callerA)
    (F : ∀ base : Heap, K.In base → base.Ns mainGlobals mg → FnOk P w K mg base CX k fa fd [x] sp) (hbind : ∀ (s : Shared) (u : Value), BindsTo s fd ⟨[u], []⟩ [(x, u)])
    (hsp : ∀ H : Hp, Only H → SqL K H a (ns.map V.int) → sp [.ref a] H (fun v _ => v = .bl true) fun _ _ _ => False)
    (hCX : ∀ H e s', CX [] H s₁ (fun _ _ _ => False) e s' → False) :
    codeAny (model P w) callerA (.call (.ref fa) ⟨[.ref a], []⟩) (fun r s' => r = .ok (.ret (.bool true)) ∧ OldK s₁.heap s'.heap ∧ s'.os = s₁.os ∧ AllBare s'.gens) s₁ := by
  have rv := vals_ints hi
  have lenV := hi.length
  have core : ∀ H : Hp, Only H → SqL K H a (ns.map V.int) → HOk P w H s₁.heap → (∀ b, H b ≠ none → b = a) → (H a ≠ none → K.lookup a = none) →
      codeAny (model P w) callerA (.call (.ref fa) ⟨[.ref a], []⟩) (fun r s' => r = .ok (.ret (.bool true)) ∧ OldK s₁.heap s'.heap ∧ s'.os = s₁.os ∧ AllBare s'.gens) s₁ := by
    intro H hO hS hok hA hK
    have base_of : ∀ {b : Addr} {o : Obj}, s₁.heap.get? b = some o → H b = none → (hidT s₁.heap H).get? b = some o := fun e n => hidT_get e n
    have noA : ∀ {b : Addr} {o : Obj} {es : Array DictEntry} {ep : Nat}, s₁.heap.get? b = some o → o.data = .dict es ep → H b = none := fun {b o es ep} e d => by
      cases q : H b with
      | none => rfl
      | some u =>
        have e' : b = a := hA b (by rw [q]; simp)
        subst e'
        rw [ha] at e; cases e
        have d' : Data.seq vs.toArray _ = Data.dict es ep := d
        cases d'
    have nsK : ∀ {b : Addr} {m : Str → Option Value}, s₁.heap.Ns b m → (hidT s₁.heap H).Ns b m := fun {b m} ⟨o, es, ep, e, d, r⟩ => ⟨o, es, ep, base_of e (noA e d), d, r⟩
    have hKb : K.In (hidT s₁.heap H) := fun b o e => base_of (KX b o e) (by
      cases q : H b with
      | none => rfl
      | some u =>
        have e' : b = a := hA b (by rw [q]; simp)
        subst e'
        rw [hK (by rw [q]; simp)] at e; cases e)
    have hM : Mod K mg (hidT s₁.heap H) := ⟨hKb, nsK hns, ⟨mb, nsK hb, hbb⟩, let ⟨mc, h1, h2⟩ := hlim; ⟨mc, nsK h1, h2⟩⟩
    have e0 : Env0 P w K mg (hidT s₁.heap H) callerA [] s₁ H := ⟨rfl, hM, fun b o e => of_hidT e, Nat.le_of_eq (hidT_size _ _), trivial, fun b hb => absurd (show b ∈ ([] : List Addr) from hb) (by simp), hok, .of_eq hg⟩
    refine codeAny_mono ((F _ hKb (nsK hns)).run callerA [] s₁ H ⟨[.ref a], []⟩ [.ref a] [.ref a] _ _ hr e0 (hbind s₁ (.ref a)) (.cons rfl .nil) (hsp H hO hS)) fun r s' h => ?_
    cases r with
    | error e => exact (hCX H e s' h).elim
    | ok fl =>
      cases fl with
      | next => exact False.elim h
      | brk => exact False.elim h
      | cont => exact False.elim h
      | ret u =>
        obtain ⟨v, H', os, bare, un, hok', r', q⟩ := h
        have q' : v = .bl true := q
        subst q'
        obtain rfl : u = Value.bool true := r'
        refine ⟨rfl, OldK.of_keep fun b o e => ?_, os, bare⟩
        cases q : H b with
        | none => exact un.keep b o e q (by intro z; exact absurd (show b ∈ ([] : List Addr) from z) (by simp)) (by simp)
        | some u =>
          rcases hO b with z | ⟨ob, xs, z⟩
          · rw [q] at z; cases z
          · have z2 := un.frzs b ob _ z
            obtain ⟨e1, _⟩ := hok b _ z
            obtain ⟨e2, _⟩ := hok' b _ z2
            rw [e] at e1; cases e1
            exact e2
  cases hk : K.lookup a with
  | some o =>
    have e := KX a o hk
    rw [ha] at e
    cases e
    refine core (fun _ => none) (fun _ => .inl rfl) (.inr ⟨_, vs.toArray, _, hk, rfl, rfl, rfl, by rw [List.size_toArray, lenV]; exact hl, by simpa using rv⟩) (fun b u z => by have z' : (none : Option HO) = some u := z; cases z') (fun b z => absurd rfl z) fun z => absurd rfl z
  | none =>
    refine core (fun b => if b = a then some (.frz { cls := .type "list", data := .seq vs.toArray } (.lst (ns.map V.int))) else none) (fun b => ?_) (.inl (.inr ⟨{ cls := .type "list", data := .seq vs.toArray }, if_pos rfl⟩)) (fun b u z => ?_) (fun b z => ?_) fun _ => hk
    · by_cases hb : b = a
      · exact .inr ⟨_, _, if_pos hb⟩
      · exact .inl (if_neg hb)
    · by_cases hb : b = a
      · have z' := (if_pos hb).symm.trans z
        cases z'
        subst hb
        exact ⟨ha, by rw [List.length_map]; exact hl, vs, _, rv, ha⟩
      · have z' := (if_neg hb).symm.trans z
        cases z'
    · by_cases hb : b = a
      · exact hb
      · exact absurd (if_neg hb) z
end L2
namespace L2
open PySem PySem.Spec PyProof.Rows
theorem walk_of {l : PySem.W.OpenLaw} {n k : Nat} {q : Program} {loose : List Str} {XP : (Str → Option Value) → Heap → Prop} {YP : World → Heap → Prop} {d : DefRec} {K : Params → PySem.W.Frag} {CX : World → CXT} {sp : World → Sp} {x : Str}
    (hn : l.most = some n) (hn2 : n ≤ sizeLine) (hdf : d.params.defaults = []) (hr : Room k callerA)
    (hY : ∀ (w : World) (h : Heap), YP w h → (K w.params).In h)
    (F : ∀ (w : World) (mg : Str → Option Value) (fa : Addr) (h : Heap), (K w.params).In h → h.Ns mainGlobals mg → mg d.name = some (.ref fa) →
      ∃ fd : FuncData, (∀ (s : Shared) (u : Value), BindsTo s fd ⟨[u], []⟩ [(x, u)]) ∧
        ∀ base : Heap, (K w.params).In base → base.Ns mainGlobals mg → FnOk l.prog w (K w.params) mg base (CX w) k fa fd [x] (sp w))
    (hsp : ∀ (w : World) (H : Hp) (a : Addr) (ns : List Int), ns.length ≤ n → Only H → SqL (K w.params) H a (ns.map V.int) → sp w [.ref a] H (fun v _ => v = .bl true) fun _ _ _ => False)
    (hCX : ∀ (w : World) (H : Hp) (s : Shared) (e : Value) (s' : Shared), CX w [] H s (fun _ _ _ => False) e s' → False) :
    PySem.W.WalkO q loose XP YP l.row.toRowW d [] (fun f vs => PySem.call f vs) := by
  refine Att.attach_call hn hdf fun w s₀ s₁ mg mb fa o pm cd doc a vs ns G Y ho hd hcd hmg hobj hints hlen hg => ?_
  have KX := hY w _ Y
  obtain ⟨fd, hb, hF⟩ := F w mg fa _ KX G.T.g hmg
  exact law_call KX G.T.g G.T.b G.T.builtins G.T.nolimit hg hobj hints (Nat.le_trans hlen hn2) hr hF hb (fun H hO hS => hsp w H a ns hlen hO hS) fun H e s' => hCX w H s₁ e s'
end L2
namespace L2
open PySem PySem.Spec PyProof.Rows
noncomputable def defArgs (s : Stmt) : Arguments := match s with
  | .FunctionDef _ a _ _ _ _ _ _ _ _ => a
  | _ => { posonlyargs := [], args := [], vararg := none, kwonlyargs := [], kw_defaults := [], kwarg := none, defaults := [] }
noncomputable def defBody (s : Stmt) : List Stmt := match s with
  | .FunctionDef _ _ b _ _ _ _ _ _ _ => b
  | _ => []
noncomputable def defScope (s : Stmt) : Scope := match s with
  | .FunctionDef _ _ _ _ _ _ sc _ _ _ => sc
  | _ => { kind := .function, names := [], isGenerator := false, isCoroutine := false }
noncomputable abbrev CX0 : CXT := fun _ _ _ _ _ _ => False
noncomputable abbrev E0 : XK := fun _ _ _ => False
theorem pass0 {X : Cx} : Passes CX0 X E0 := fun _ _ _ _ _ _ _ h => h.elim
structure Fun (K : PySem.W.Frag) (x qual : Str) (st : Stmt) (f : Addr) (fd : FuncData) : Prop where
  ex : ∃ (oc : Value) (od : Option Addr) (kV doc pm : Value) (an : Option Addr) (cdv ct : Value) (osl : Array (Option Value)),
    fd = PySem.W.fnOf x qual (defArgs st) (defBody st) (defScope st) .none kV doc pm an cdv ct ∧ K.lookup f = some ⟨oc, od, .func fd, osl⟩ ∧ PySem.W.codeIn K cdv qual = true
  kp : PySem.W.keepIn K (.ref f) = true
section
variable {P : Program} {w : World} {K : PySem.W.Frag} {mg : Str → Option Value} {base : Heap}
theorem Fun.ok {x qual : Str} {st : Stmt} {f : Addr} {fd : FuncData} {N ps : List Str} {k : Nat} {sp : Sp} (F : Fun K x qual st f fd) (S : FnScope N ps (defScope st)) (len : ∀ vs H Q E, sp vs H Q E → vs.length = ps.length)
    (hbody : ∀ (cdv : Value) (A : Around) (outer : List Env) (s : Shared) (H : Hp) (vs : List V) (Q : VK) (E : XK), Room k (A.deeper (envOfC qual (defScope st) s.heap.objs.size f cdv)) → sp vs H Q E →
      ∃ t, PSs (cxOf CX0 P w K mg base N qual (defScope st) f cdv A outer s H E).nox (defBody st) t ∧ t { nx := fun _ H' => Q .non H', rt := Q } (start N vs) H) : FnOk P w K mg base CX0 (k + 1) f fd ps sp := by
  obtain ⟨oc, od, kV, doc, pm, an, cdv, ct, osl, rfl, lk, hcd⟩ := F.ex
  refine fn_of lk hcd S len fun A outer s H vs Q E hr hsp => ?_
  obtain ⟨t, h, q⟩ := hbody cdv A outer s H vs Q E hr hsp
  exact ⟨t, h.nox, q⟩
theorem Fun.binds {x qual : Str} {st : Stmt} {f : Addr} {fd : FuncData} {ps : List Str} (F : Fun K x qual st f fd)
    (h : ∀ (kV doc pm : Value) (an : Option Addr) (cdv ct : Value) (us : List Value), us.length = ps.length → bindArgs (PySem.W.fnOf x qual (defArgs st) (defBody st) (defScope st) .none kV doc pm an cdv ct) ⟨us, []⟩ = pure (ps.zip us)) : Binds K fd ps [] := by
  obtain ⟨oc, od, kV, doc, pm, an, cdv, ct, osl, rfl, lk, hcd⟩ := F.ex
  exact .all (h kV doc pm an cdv ct)
theorem fun_mk {x qual : Str} {st : Stmt} {f : Addr} {oc : Value} {od an : Option Addr} {osl : Array (Option Value)} {kV doc pm cdv ct : Value} (l : K.lookup f = some ⟨oc, od, .func (PySem.W.fnOf x qual (defArgs st) (defBody st) (defScope st) .none kV doc pm an cdv ct), osl⟩)
    (c : PySem.W.codeIn K cdv qual = true) (k : PySem.W.keepIn K (.ref f) = true) : Fun K x qual st f (PySem.W.fnOf x qual (defArgs st) (defBody st) (defScope st) .none kV doc pm an cdv ct) := ⟨⟨oc, od, kV, doc, pm, an, cdv, ct, osl, rfl, l, c⟩, k⟩
end
section
variable {X : Cx}
end
theorem iteF {A B : Prop} (h : B) : if false = true then A else B := by
  rw [if_neg Bool.false_ne_true]
  exact h
theorem iteT {A B : Prop} (h : A) : if true = true then A else B := by
  rw [if_pos rfl]
  exact h
noncomputable def Same (H H' : Hp) : Prop := ∀ b o, H b = some o → H' b = some o
theorem Same.refl (H : Hp) : Same H H := fun _ _ h => h
theorem Same.trans {H H1 H2 : Hp} (a : Same H H1) (b : Same H1 H2) : Same H H2 := fun c o h => b c o (a c o h)
theorem Same.free {H H' : Hp} (e : Same H H') {l : Addr} (h : H' l = Option.none) : H l = Option.none := by
  cases q : H l with
  | none => rfl
  | some o =>
    rw [e l o q] at h
    cases h
theorem Same.seq {K : PySem.W.Frag} {H H' : Hp} {a : Addr} {xs : List V} (e : Same H H') (h : SqL K H a xs) : SqL K H' a xs := by
  rcases h with (h | ⟨o, h⟩) | h
  · exact .inl (.inl (e _ _ h))
  · exact .inl (.inr ⟨o, e _ _ h⟩)
  · exact .inr h
end L2
namespace L2
open PySem PySem.Spec PyProof.Rows
section
variable {κ : Type} [DecidableEq κ]
noncomputable def valV (kvs : List (κ × V)) (k : κ) : Option V := (kvs.find? fun kv => decide (kv.1 = k)).map (·.2)
noncomputable def putK (kvs : List (κ × V)) (k : κ) (v : V) : List (κ × V) :=
  if (kvs.any fun kv => decide (kv.1 = k)) = true then kvs.map (fun kv => if kv.1 = k then (kv.1, v) else kv) else kvs ++ [(k, v)]
noncomputable def dropK (kvs : List (κ × V)) (k : κ) : List (κ × V) := kvs.filter fun kv => decide (kv.1 ≠ k)
theorem valV_pos {p : κ × V} {r : List (κ × V)} {k : κ} (e : p.1 = k) : valV (p :: r) k = some p.2 := by simp [valV, List.find?_cons, e]
theorem valV_neg {p : κ × V} {r : List (κ × V)} {k : κ} (e : ¬ p.1 = k) : valV (p :: r) k = valV r k := by simp [valV, List.find?_cons, e]
theorem RelO.getD {o : Option V} {u : Option Value} {d : V} {d' : Value} (r : RelO o u) (rd : RelV d d') : RelV (o.getD d) (u.getD d') := by
  cases o with
  | none => cases u with
    | none => exact rd
    | some _ => exact (show False from r).elim
  | some _ => cases u with
    | none => exact (show False from r).elim
    | some _ => exact r
theorem KV.val {kvs : List (κ × V)} {vs : List (κ × Value)} (r : KV kvs vs) (k : κ) : RelO (valV kvs k) (valueAt vs k) := by
  unfold KV at r
  induction r with
  | nil => exact True.intro
  | @cons p q ps qs h t ih =>
    obtain ⟨h1, h2⟩ := h
    by_cases e : p.1 = k
    · have e' : q.1 = k := h1.symm.trans e
      have b : valueAt (q :: qs) k = some q.2 := by simp [valueAt, List.find?_cons, e']
      rw [valV_pos e, b]; exact h2
    · have e' : ¬ q.1 = k := fun z => e (h1.trans z)
      have b : valueAt (q :: qs) k = valueAt qs k := by simp [valueAt, List.find?_cons, e']
      rw [valV_neg e, b]; exact ih
theorem KV.any {kvs : List (κ × V)} {vs : List (κ × Value)} (r : KV kvs vs) (k : κ) : (kvs.any fun kv => decide (kv.1 = k)) = vs.any fun kv => decide (kv.1 = k) := by
  unfold KV at r
  induction r with
  | nil => rfl
  | cons h t ih => rw [List.any_cons, List.any_cons, ih, h.1]
theorem KV.drop {kvs : List (κ × V)} {vs : List (κ × Value)} (r : KV kvs vs) (k : κ) : KV (dropK kvs k) (without vs k) := by
  unfold KV at r ⊢
  unfold dropK without
  induction r with
  | nil => exact .nil
  | @cons p q ps qs h t ih =>
    obtain ⟨h1, h2⟩ := h
    rw [List.filter_cons, List.filter_cons]
    by_cases e : p.1 = k
    · have a : ¬ decide (p.1 ≠ k) = true := by simp [e]
      have b : ¬ decide (q.1 ≠ k) = true := by simp [h1.symm.trans e]
      rw [if_neg a, if_neg b]; exact ih
    · have e' : ¬ q.1 = k := fun z => e (h1.trans z)
      have a : decide (p.1 ≠ k) = true := by simp [e]
      have b : decide (q.1 ≠ k) = true := by simp [e']
      rw [if_pos a, if_pos b]; exact .cons ⟨h1, h2⟩ ih
theorem KV.length {kvs : List (κ × V)} {vs : List (κ × Value)} (r : KV kvs vs) : kvs.length = vs.length := Paired.length r
end
noncomputable abbrev KT (H : Hp) : List (List Key × V) → List (List Key × Addr × Value) → Prop := Paired fun p q => p.1 = q.1 ∧ H q.2.1 = some (.tup (p.1.map kV)) ∧ RelV p.2 q.2.2
theorem KT.val {H : Hp} {kvs : List (List Key × V)} {xs : List (List Key × Addr × Value)} (r : KT H kvs xs) (k : List Key) : RelO (valV kvs k) ((atKey xs k).map (·.2)) := by
  induction r with
  | nil => exact True.intro
  | @cons p q ps qs h t ih =>
    obtain ⟨h1, _, h2⟩ := h
    by_cases e : p.1 = k
    · have e' : q.1 = k := h1.symm.trans e
      have b : atKey (q :: qs) k = some q.2 := by simp [atKey, List.find?_cons, e']
      rw [valV_pos e, b]; exact h2
    · have e' : ¬ q.1 = k := fun z => e (h1.trans z)
      have b : atKey (q :: qs) k = atKey qs k := by simp [atKey, List.find?_cons, e']
      rw [valV_neg e, b]; exact ih
theorem KT.keeps {H H' : Hp} {kvs : List (List Key × V)} {xs : List (List Key × Addr × Value)} (r : KT H kvs xs) (ht : ∀ b ys, H b = some (.tup ys) → H' b = some (.tup ys)) : KT H' kvs xs :=
  Paired.mapP r fun _ _ z => ⟨z.1, ht _ _ z.2.1, z.2.2⟩
section
variable {P : Program} {w : World} {H : Hp} {h : Heap} {a : Addr}
end
noncomputable def DGet (H : Hp) (a : Addr) (y : V) (r : Option V) : Prop :=
  (∃ kvs k, Rd H a (.dK kvs) ∧ y = kV k ∧ r = valV kvs k) ∨ ∃ kvs k b, Rd H a (.dT kvs) ∧ y = .ref b ∧ H b = some (.tup (k.map kV)) ∧ r = valV kvs k
noncomputable def DPut (H : Hp) (a : Addr) (y v : V) (H' : Hp) : Prop :=
  (∃ kvs k, H a = some (.dK kvs) ∧ y = kV k ∧ kvs.length < sizeLine ∧ H' = upd H a (.dK (putK kvs k v))) ∨
  ∃ kvs k b, H a = some (.dT kvs) ∧ y = .ref b ∧ H b = some (.tup (k.map kV)) ∧ kvs.length < sizeLine ∧ H' = upd H a (.dT (putK kvs k v))
theorem DGet.k {H : Hp} {a : Addr} {kvs : List (Key × V)} {k : Key} (e : H a = some (.dK kvs)) : DGet H a (kV k) (valV kvs k) := .inl ⟨kvs, k, .inl e, rfl, rfl⟩
theorem DGet.t {H : Hp} {a b : Addr} {kvs : List (List Key × V)} {k : List Key} (e : H a = some (.dT kvs)) (eb : H b = some (.tup (k.map kV))) : DGet H a (.ref b) (valV kvs k) := .inr ⟨kvs, k, b, .inl e, rfl, eb, rfl⟩
theorem DPut.k {H : Hp} {a : Addr} {kvs : List (Key × V)} {k : Key} {v : V} (e : H a = some (.dK kvs)) (hl : kvs.length < sizeLine) : DPut H a (kV k) v (upd H a (.dK (putK kvs k v))) := .inl ⟨kvs, k, e, rfl, hl, rfl⟩
theorem DPut.t {H : Hp} {a b : Addr} {kvs : List (List Key × V)} {k : List Key} {v : V} (e : H a = some (.dT kvs)) (eb : H b = some (.tup (k.map kV))) (hl : kvs.length < sizeLine) :
    DPut H a (.ref b) v (upd H a (.dT (putK kvs k v))) := .inr ⟨kvs, k, b, e, rfl, eb, hl, rfl⟩
section
variable {X : Cx} {pins : List (Addr × Obj)} {σ : St} {H : Hp} {s : Shared} {a : Addr} {y v : V} {u r : Value} {o : Option V} {A : Around} {E : Value → Shared → Prop}
theorem Inv.big (I : Inv X pins σ H s) : sysModules < s.heap.objs.size := by
  have h : mainGlobals < s.heap.objs.size := (I.mod.glob.keeps I.bk).lt
  exact Nat.lt_trans (by decide) h
end
section
variable {X : Cx} {pins : List (Addr × Obj)} {σ : St} {H : Hp} {s : Shared} {a : Addr} {kvs : List (Key × V)} {k : Key} {u : Value} {A : Around} {E : Value → Shared → Prop}
end
section
variable {X : Cx} {o i e value : Expr} {pos pos' tpos : Pos} {td ty tv : TE}
end
section
variable {X : Cx} {pos : Pos}
end
section
variable {X : Cx} {pins : List (Addr × Obj)} {σ : St} {H : Hp} {s : Shared} {a : Addr} {y d : V} {u r : Value} {o : Option V} {A : Around} {E : Value → Shared → Prop}
end
section
variable {X : Cx} {o e f : Expr} {apos cpos : Pos} {td ty tx : TE}
end
section
variable {X : Cx} {pins : List (Addr × Obj)} {σ : St} {H : Hp} {s : Shared} {a : Addr} {kvs : List (Key × V)} {A : Around} {E : Value → Shared → Prop}
end
section
variable {X : Cx} {pins : List (Addr × Obj)} {σ : St} {H : Hp} {s : Shared} {a : Addr} {y : V} {u : Value} {A : Around} {E : Value → Shared → Prop}
end
end L2
namespace L2
open PySem PySem.Spec PyProof.Rows
section
variable {X : Cx}
end
section
variable {κ : Type} [DecidableEq κ]
end
end L2
namespace L3
noncomputable abbrev St := L2.St
open PySem PySem.Spec PyProof.Rows L2
inductive D where
  | non | bl (b : Bool) | int (i : Int) | str (x : Str) | tup (xs : List D) | ref (n : Nat) | fn (a : Addr)
inductive Ob where
  | lst (xs : List D) | flst (xs : List D) | iset (f : Int → Bool) (n : Nat) | dct (kvs : List (Key × D)) | fdct (kvs : List (Key × D)) | tdct (kvs : List (List Key × D)) | ftdct (kvs : List (List Key × D)) | tset (ks : List (List Int)) | fnc (x : Str) | exc (c : Str)
noncomputable def Ob.mut : Ob → Bool
  | .flst _ => false
  | .fnc _ => false
  | _ => true
noncomputable abbrev Sto := List Ob
noncomputable abbrev Lo := List (Option D)
mutual
inductive RD (ρ : List Addr) (H : Hp) : D → V → Prop where
  | non : RD ρ H .non .non
  | bl (b : Bool) : RD ρ H (.bl b) (.bl b)
  | int (i : Int) : RD ρ H (.int i) (.int i)
  | str (x : Str) : RD ρ H (.str x) (.str x)
  | tup {xs : List D} {a : Addr} {vs : List V} : H a = some (.tup vs) → RDs ρ H xs vs → RD ρ H (.tup xs) (.ref a)
  | ref {n : Nat} {a : Addr} : ρ[n]? = some a → RD ρ H (.ref n) (.ref a)
  | fn (a : Addr) : RD ρ H (.fn a) (.ref a)
inductive RDs (ρ : List Addr) (H : Hp) : List D → List V → Prop where
  | nil : RDs ρ H [] []
  | cons {x : D} {v : V} {xs : List D} {vs : List V} : RD ρ H x v → RDs ρ H xs vs → RDs ρ H (x :: xs) (v :: vs)
end
structure Ext0 (ρ : List Addr) (H : Hp) (ρ' : List Addr) (H' : Hp) : Prop where
  pre : ∀ (n : Nat) (a : Addr), ρ[n]? = some a → ρ'[n]? = some a
  tup : ∀ a vs, H a = some (.tup vs) → H' a = some (.tup vs)
  frz : ∀ a o u, H a = some (.frz o u) → H' a = some (.frz o u)
structure Ext (ρ : List Addr) (H : Hp) (ρ' : List Addr) (H' : Hp) : Prop extends Ext0 ρ H ρ' H' where
  out : ∀ a (vs : HO), H a = some vs → (∀ n : Nat, ρ[n]? ≠ some a) → H' a = some vs ∧ ∀ n : Nat, ρ'[n]? ≠ some a
theorem Ext.refl (ρ : List Addr) (H : Hp) : Ext ρ H ρ H := ⟨⟨fun _ _ h => h, fun _ _ h => h, fun _ _ _ h => h⟩, fun _ _ h n => ⟨h, n⟩⟩
theorem Ext.trans {ρ ρ1 ρ2 : List Addr} {H H1 H2 : Hp} (a : Ext ρ H ρ1 H1) (b : Ext ρ1 H1 ρ2 H2) : Ext ρ H ρ2 H2 :=
  ⟨⟨fun n x h => b.pre n x (a.pre n x h), fun n x h => b.tup n x (a.tup n x h), fun n o x h => b.frz n o x (a.frz n o x h)⟩, fun x vs h n => let ⟨h1, n1⟩ := a.out x vs h n; b.out x vs h1 n1⟩
section
variable {ρ ρ' : List Addr} {H H' : Hp}
mutual
theorem RD.mono0 (e : Ext0 ρ H ρ' H') : ∀ {d : D} {v : V}, RD ρ H d v → RD ρ' H' d v
  | _, _, .non => .non
  | _, _, .bl b => .bl b
  | _, _, .int i => .int i
  | _, _, .str x => .str x
  | _, _, .tup h r => .tup (e.tup _ _ h) (RDs.mono0 e r)
  | _, _, .ref h => .ref (e.pre _ _ h)
  | _, _, .fn a => .fn a
theorem RDs.mono0 (e : Ext0 ρ H ρ' H') : ∀ {d : List D} {v : List V}, RDs ρ H d v → RDs ρ' H' d v
  | _, _, .nil => .nil
  | _, _, .cons r q => .cons (RD.mono0 e r) (RDs.mono0 e q)
end
theorem RD.mono {d : D} {v : V} (r : RD ρ H d v) (e : Ext ρ H ρ' H') : RD ρ' H' d v := r.mono0 e.toExt0
theorem RDs.mono {d : List D} {v : List V} (r : RDs ρ H d v) (e : Ext ρ H ρ' H') : RDs ρ' H' d v := r.mono0 e.toExt0
theorem RDs.length : ∀ {d : List D} {v : List V}, RDs ρ H d v → d.length = v.length
  | _, _, .nil => rfl
  | _, _, .cons _ q => congrArg (· + 1) (RDs.length q)
theorem RDs.get : ∀ {d : List D} {v : List V} {i : Nat} {x : D}, RDs ρ H d v → d[i]? = some x → ∃ u, v[i]? = some u ∧ RD ρ H x u
  | _, _, _, _, .nil, e => by simp at e
  | _, _, 0, _, .cons r _, e => by simp at e; subst e; exact ⟨_, rfl, r⟩
  | _, _, i + 1, x, .cons _ q, e => by
    obtain ⟨u, h1, h2⟩ := RDs.get (i := i) (x := x) q (by simpa using e)
    exact ⟨u, by simpa using h1, h2⟩
theorem RDs.set {x : D} {u : V} (r : RD ρ H x u) : ∀ {d : List D} {v : List V} (i : Nat), RDs ρ H d v → RDs ρ H (d.set i x) (v.set i u)
  | _, _, _, .nil => .nil
  | _, _, 0, .cons _ q => .cons r q
  | _, _, i + 1, .cons p q => .cons p (RDs.set r i q)
theorem RDs.append : ∀ {d e : List D} {v w : List V}, RDs ρ H d v → RDs ρ H e w → RDs ρ H (d ++ e) (v ++ w)
  | _, _, _, _, .nil, q => q
  | _, _, _, _, .cons r p, q => .cons r (RDs.append p q)
theorem RDs.take : ∀ {d : List D} {v : List V} (n : Nat), RDs ρ H d v → RDs ρ H (d.take n) (v.take n)
  | _, _, 0, _ => .nil
  | _, _, _ + 1, .nil => .nil
  | _, _, n + 1, .cons r t => .cons r (RDs.take n t)
theorem RDs.drop : ∀ {d : List D} {v : List V} (n : Nat), RDs ρ H d v → RDs ρ H (d.drop n) (v.drop n)
  | _, _, 0, r => r
  | _, _, _ + 1, .nil => .nil
  | _, _, n + 1, .cons _ t => RDs.drop n t
theorem RDs.rep {xs : List D} {us : List V} (h : RDs ρ H xs us) : ∀ k : Nat, RDs ρ H (List.replicate k xs).flatten (List.replicate k us).flatten
  | 0 => .nil
  | k + 1 => by
    rw [List.replicate_succ, List.replicate_succ, List.flatten_cons, List.flatten_cons]
    exact RDs.append h (RDs.rep h k)
theorem RDs.one {x : D} {vs : List V} (h : RDs ρ H [x] vs) : ∃ v, vs = [v] ∧ RD ρ H x v := by
  cases h with
  | cons r q => cases q; exact ⟨_, rfl, r⟩
theorem RDs.two {x y : D} {vs : List V} (h : RDs ρ H [x, y] vs) : ∃ v u, vs = [v, u] ∧ RD ρ H x v ∧ RD ρ H y u := by
  cases h with
  | cons r q => obtain ⟨u, rfl, r2⟩ := q.one; exact ⟨_, _, rfl, r, r2⟩
end
noncomputable def Fz (K : PySem.W.Frag) (H : Hp) (a : Addr) (xs : List V) : Prop := (∃ o, H a = some (.frz o (.lst xs))) ∨
    ∃ (o : Obj) (its : Array Value) (n : Nat), K.lookup a = some o ∧ o.cls = .type "list" ∧ o.dict = none ∧ o.data = .seq its n ∧ its.size ≤ sizeLine ∧ Vals xs its.toList
theorem Fz.sq {K : PySem.W.Frag} {H : Hp} {a : Addr} {xs : List V} (h : Fz K H a xs) : SqL K H a xs := by
  rcases h with ⟨o, h⟩ | h
  · exact .inl (.inr ⟨o, h⟩)
  · exact .inr h
noncomputable def ObR (K : PySem.W.Frag) (ρ : List Addr) (H : Hp) : Ob → Addr → Prop
  | .lst xs, a => ∃ vs, H a = some (.lst vs) ∧ RDs ρ H xs vs
  | .flst xs, a => ∃ vs, Fz K H a vs ∧ RDs ρ H xs vs
  | .iset f n, a => H a = some (.set f n)
  | .dct kvs, a => ∃ vs, H a = some (.dK ((kvs.map (·.1)).zip vs)) ∧ RDs ρ H (kvs.map (·.2)) vs
  | .fdct kvs, a => ∃ o vs, H a = some (.frz o (.dK ((kvs.map (·.1)).zip vs))) ∧ RDs ρ H (kvs.map (·.2)) vs
  | .tdct kvs, a => ∃ vs, H a = some (.dT ((kvs.map (·.1)).zip vs)) ∧ RDs ρ H (kvs.map (·.2)) vs
  | .ftdct kvs, a => ∃ o vs, H a = some (.frz o (.dT ((kvs.map (·.1)).zip vs))) ∧ RDs ρ H (kvs.map (·.2)) vs
  | .tset ks, a => ∃ xs : List (List Int × Addr), ks = xs.map (·.1) ∧ H a = some (.ext (TS.TSet a xs)) ∧ ∀ p ∈ xs, H p.2 = some (.tup (p.1.map V.int))
  | .fnc x, a => PySem.W.nsIn K mainGlobals x = some (some (.ref a)) ∧ ∃ o, K.lookup a = some o
  | .exc c, a => ∃ C, PySem.W.nsIn K mainGlobals c = some (some (.ref C)) ∧ H a = some (.ext (fun h => ∃ o, h.get? a = some o ∧ o.cls = .ref C))
structure Sim (K : PySem.W.Frag) (ρ : List Addr) (S : Sto) (H : Hp) : Prop where
  len : ρ.length = S.length
  nd : ∀ (i j : Nat) (a : Addr) (o1 o2 : Ob), ρ[i]? = some a → ρ[j]? = some a → S[i]? = some o1 → S[j]? = some o2 → o1.mut = true → o2.mut = true → i = j
  at' : ∀ (n : Nat) (a : Addr) (o : Ob), ρ[n]? = some a → S[n]? = some o → ObR K ρ H o a
section
variable {K : PySem.W.Frag} {ρ ρ' : List Addr} {H : Hp} {S : Sto}
theorem ext_new {p : Addr} {o : HO} (hp : H p = none) : Ext ρ H ρ (upd H p o) :=
  ⟨⟨fun _ _ h => h, fun a vs h => by rw [upd_ne (ne_of_none h hp)]; exact h, fun a o vs h => by rw [upd_ne (ne_of_none h hp)]; exact h⟩, fun a vs h n => ⟨by rw [upd_ne (ne_of_none h hp)]; exact h, n⟩⟩
theorem ext0_upd {p : Addr} {o : HO} {ys : List V} (hp : H p = some (.lst ys)) : Ext0 ρ H ρ (upd H p o) :=
  ⟨fun _ _ h => h, fun a vs h => by rw [upd_ne (ne_of h hp (by intro z; cases z))]; exact h, fun a o vs h => by rw [upd_ne (ne_of h hp (by intro z; cases z))]; exact h⟩
noncomputable def Plain (u : HO) : Prop := (∀ vs, u ≠ .tup vs) ∧ ∀ o v, u ≠ .frz o v
theorem plain_lst (ys : List V) : Plain (.lst ys) := ⟨fun _ z => (by cases z), fun _ _ z => (by cases z)⟩
theorem ext0_updG {p : Addr} {o u : HO} (hp : H p = some u) (hu : Plain u) : Ext0 ρ H ρ (upd H p o) :=
  ⟨fun _ _ h => h, fun a vs h => by rw [upd_ne (ne_of h hp (fun z => hu.1 vs z.symm))]; exact h, fun a o vs h => by rw [upd_ne (ne_of h hp (fun z => hu.2 o vs z.symm))]; exact h⟩
theorem ext_upd {p : Addr} {o : HO} {ys : List V} {n : Nat} (hn : ρ[n]? = some p) (hp : H p = some (.lst ys)) : Ext ρ H ρ (upd H p o) :=
  ⟨ext0_upd hp, fun a vs h hm => ⟨by rw [upd_ne (fun z => hm n (by rw [z]; exact hn))]; exact h, hm⟩⟩
theorem ObR.laid {o : Ob} {a p : Addr} {u : HO} (h : ObR K ρ H o a) (hp : H p = none) : ObR K ρ (upd H p u) o a := by
  cases o with
  | lst xs =>
    obtain ⟨vs, e, r⟩ := h
    exact ⟨vs, by rw [upd_ne (ne_of_none e hp)]; exact e, r.mono (ext_new hp)⟩
  | flst xs =>
    obtain ⟨vs, e, r⟩ := h
    refine ⟨vs, ?_, r.mono (ext_new hp)⟩
    rcases e with ⟨o, e⟩ | e
    · exact .inl ⟨o, by rw [upd_ne (ne_of_none e hp)]; exact e⟩
    · exact .inr e
  | iset f n =>
    show upd H p u a = some (.set f n)
    have e : H a = some (.set f n) := h
    rw [upd_ne (ne_of_none e hp)]; exact e
  | dct kvs =>
    obtain ⟨vs, e, r⟩ := h
    exact ⟨vs, by rw [upd_ne (ne_of_none e hp)]; exact e, r.mono (ext_new hp)⟩
  | fdct kvs =>
    obtain ⟨o, vs, e, r⟩ := h
    exact ⟨o, vs, by rw [upd_ne (ne_of_none e hp)]; exact e, r.mono (ext_new hp)⟩
  | tdct kvs =>
    obtain ⟨vs, e, r⟩ := h
    exact ⟨vs, by rw [upd_ne (ne_of_none e hp)]; exact e, r.mono (ext_new hp)⟩
  | ftdct kvs =>
    obtain ⟨o, vs, e, r⟩ := h
    exact ⟨o, vs, by rw [upd_ne (ne_of_none e hp)]; exact e, r.mono (ext_new hp)⟩
  | tset ks =>
    obtain ⟨xs, e0, e, r⟩ := h
    exact ⟨xs, e0, by rw [upd_ne (ne_of_none e hp)]; exact e, fun p hq => by rw [upd_ne (ne_of_none (r p hq) hp)]; exact r p hq⟩
  | fnc x => exact h
  | exc c =>
    obtain ⟨C, hc, e⟩ := h
    exact ⟨C, hc, by rw [upd_ne (ne_of_none e hp)]; exact e⟩
theorem ObR.writtenG {o : Ob} {a p : Addr} {u u0 : HO} (h : ObR K ρ H o a) (hp : H p = some u0) (hu : Plain u0) (hn : o.mut = true → a ≠ p) : ObR K ρ (upd H p u) o a := by
  cases o with
  | lst xs =>
    obtain ⟨vs, e, r⟩ := h
    exact ⟨vs, by rw [upd_ne (hn rfl)]; exact e, r.mono0 (ext0_updG hp hu)⟩
  | flst xs =>
    obtain ⟨vs, e, r⟩ := h
    refine ⟨vs, ?_, r.mono0 (ext0_updG hp hu)⟩
    rcases e with ⟨o, e⟩ | e
    · exact .inl ⟨o, by rw [upd_ne (ne_of e hp (fun z => hu.2 _ _ z.symm))]; exact e⟩
    · exact .inr e
  | iset f n =>
    show upd H p u a = some (.set f n)
    rw [upd_ne (hn rfl)]; exact h
  | dct kvs =>
    obtain ⟨vs, e, r⟩ := h
    exact ⟨vs, by rw [upd_ne (hn rfl)]; exact e, r.mono0 (ext0_updG hp hu)⟩
  | tdct kvs =>
    obtain ⟨vs, e, r⟩ := h
    exact ⟨vs, by rw [upd_ne (hn rfl)]; exact e, r.mono0 (ext0_updG hp hu)⟩
  | fdct kvs =>
    obtain ⟨o, vs, e, r⟩ := h
    exact ⟨o, vs, by rw [upd_ne (hn rfl)]; exact e, r.mono0 (ext0_updG hp hu)⟩
  | ftdct kvs =>
    obtain ⟨o, vs, e, r⟩ := h
    exact ⟨o, vs, by rw [upd_ne (hn rfl)]; exact e, r.mono0 (ext0_updG hp hu)⟩
  | tset ks =>
    obtain ⟨xs, e0, e, r⟩ := h
    exact ⟨xs, e0, by rw [upd_ne (hn rfl)]; exact e, fun p hq => (ext0_updG (ρ := ρ) hp hu).tup _ _ (r p hq)⟩
  | fnc x => exact h
  | exc c =>
    obtain ⟨C, hc, e⟩ := h
    exact ⟨C, hc, by rw [upd_ne (hn rfl)]; exact e⟩
theorem ObR.written {o : Ob} {a p : Addr} {u : HO} {ys : List V} (h : ObR K ρ H o a) (hp : H p = some (.lst ys)) (hn : o.mut = true → a ≠ p) : ObR K ρ (upd H p u) o a := h.writtenG hp (plain_lst ys) hn
theorem ObR.more {o : Ob} {a : Addr} (h : ObR K ρ H o a) (e : Ext0 ρ H ρ' H) : ObR K ρ' H o a := by
  cases o with
  | lst xs => obtain ⟨vs, e1, r⟩ := h; exact ⟨vs, e1, r.mono0 e⟩
  | flst xs => obtain ⟨vs, e1, r⟩ := h; exact ⟨vs, e1, r.mono0 e⟩
  | iset f n => exact h
  | dct kvs => obtain ⟨vs, e1, r⟩ := h; exact ⟨vs, e1, r.mono0 e⟩
  | tdct kvs => obtain ⟨vs, e1, r⟩ := h; exact ⟨vs, e1, r.mono0 e⟩
  | fdct kvs => obtain ⟨o, vs, e1, r⟩ := h; exact ⟨o, vs, e1, r.mono0 e⟩
  | ftdct kvs => obtain ⟨o, vs, e1, r⟩ := h; exact ⟨o, vs, e1, r.mono0 e⟩
  | tset ks => exact h
  | fnc x => exact h
  | exc c => exact h
theorem Sim.laid (s : Sim K ρ S H) {p : Addr} {u : HO} (hp : H p = none) : Sim K ρ S (upd H p u) :=
  ⟨s.len, s.nd, fun n a o h1 h2 => (s.at' n a o h1 h2).laid hp⟩
theorem Sim.lst {n : Nat} {xs : List D} (s : Sim K ρ S H) (h : S[n]? = some (.lst xs)) : ∃ a vs, ρ[n]? = some a ∧ H a = some (.lst vs) ∧ RDs ρ H xs vs := by
  have hl : n < ρ.length := by rw [s.len]; exact (List.getElem?_eq_some_iff.mp h).1
  obtain ⟨vs, e, r⟩ := s.at' n _ _ (List.getElem?_eq_getElem hl) h
  exact ⟨_, vs, List.getElem?_eq_getElem hl, e, r⟩
noncomputable def lstOf (S : Sto) (n : Nat) : Option (List D) := match S[n]? with
  | some (.lst xs) => some xs
  | some (.flst xs) => some xs
  | _ => none
theorem Sim.lstOf {n : Nat} {xs : List D} (s : Sim K ρ S H) (h : L3.lstOf S n = some xs) : ∃ a vs, ρ[n]? = some a ∧ SqL K H a vs ∧ RDs ρ H xs vs := by
  unfold L3.lstOf at h
  cases e : S[n]? with
  | none => rw [e] at h; cases h
  | some o =>
    have hl : n < ρ.length := by rw [s.len]; exact (List.getElem?_eq_some_iff.mp e).1
    have q := s.at' n _ _ (List.getElem?_eq_getElem hl) e
    rw [e] at h
    cases o with
    | lst ys =>
      cases h
      obtain ⟨vs, e1, r⟩ := q
      exact ⟨_, vs, List.getElem?_eq_getElem hl, .inl (.inl e1), r⟩
    | flst ys =>
      cases h
      obtain ⟨vs, e1, r⟩ := q
      exact ⟨_, vs, List.getElem?_eq_getElem hl, e1.sq, r⟩
    | iset f n => cases h
    | dct kvs => cases h
    | fdct kvs => cases h
    | ftdct kvs => cases h
    | tset ks => cases h
    | fnc x => cases h
    | tdct kvs => cases h
    | exc c => cases h
theorem Sim.setG {n : Nat} {a : Addr} {o0 o1 : Ob} {u0 u1 : HO} (s : Sim K ρ S H) (ha : ρ[n]? = some a) (hS : S[n]? = some o0) (hm0 : o0.mut = true) (hH : H a = some u0) (hu : Plain u0) (r : ObR K ρ (upd H a u1) o1 a) : Sim K ρ (S.set n o1) (upd H a u1) := by
  have hl : n < S.length := (List.getElem?_eq_some_iff.mp hS).1
  have key : ∀ (m : Nat) (w : Ob), w.mut = true → (S.set n o1)[m]? = some w → ∃ w', S[m]? = some w' ∧ w'.mut = true := fun m w hw h => by
    by_cases hmn : n = m
    · subst hmn; exact ⟨_, hS, hm0⟩
    · rw [List.getElem?_set_ne hmn] at h; exact ⟨_, h, hw⟩
  refine ⟨by rw [List.length_set]; exact s.len, fun i j b x1 x2 h1 h2 h3 h4 m1 m2 => ?_, fun m b o h1 h2 => ?_⟩
  · obtain ⟨_, h3, q3⟩ := key i x1 m1 h3
    obtain ⟨_, h4, q4⟩ := key j x2 m2 h4
    exact s.nd i j b _ _ h1 h2 h3 h4 q3 q4
  by_cases hmn : n = m
  · subst hmn
    rw [ha] at h1; cases h1
    rw [List.getElem?_set_self hl] at h2
    cases h2
    exact r
  · rw [List.getElem?_set_ne hmn] at h2
    exact (s.at' m b o h1 h2).writtenG hH hu (fun e z => hmn (s.nd n m a _ _ ha (by rw [h1, z]) hS h2 hm0 e))
theorem Sim.set {n : Nat} {a : Addr} {ys : List V} {xs zs : List D} {vs : List V} (s : Sim K ρ S H) (ha : ρ[n]? = some a) (hS : S[n]? = some (.lst zs)) (hH : H a = some (.lst ys)) (r : RDs ρ H xs vs) : Sim K ρ (S.set n (.lst xs)) (upd H a (.lst vs)) :=
  s.setG ha hS rfl hH (plain_lst ys) ⟨vs, upd_same, r.mono0 (ext0_upd hH)⟩
theorem ext0_push {a : Addr} : Ext0 ρ H (ρ ++ [a]) H :=
  ⟨fun n b h => by rw [List.getElem?_append_left (List.getElem?_eq_some_iff.mp h).1]; exact h, fun _ _ h => h, fun _ _ _ h => h⟩
theorem get_push {α : Type} {l : List α} {a b : α} {n : Nat} (h : (l ++ [a])[n]? = some b) : l[n]? = some b ∨ (n = l.length ∧ b = a) := by
  by_cases hl : n < l.length
  · rw [List.getElem?_append_left hl] at h; exact .inl h
  · rw [List.getElem?_append_right (by omega)] at h
    have : n - l.length = 0 := by
      have := (List.getElem?_eq_some_iff.mp h).1
      simp at this; omega
    rw [this] at h; simp at h
    exact .inr ⟨by omega, h.symm⟩
theorem ext_newl {a : Addr} {vs : List V} (ha : H a = none) : Ext ρ H (ρ ++ [a]) (upd H a (.lst vs)) :=
  ⟨⟨ext0_push.pre (H := H), fun b us h => by rw [upd_ne (ne_of_none h ha)]; exact h, fun b o us h => by rw [upd_ne (ne_of_none h ha)]; exact h⟩, fun b us h n => ⟨by rw [upd_ne (ne_of_none h ha)]; exact h, fun i hi => by
    rcases get_push hi with hi | ⟨_, e⟩
    · exact n i hi
    · rw [e, ha] at h; cases h⟩⟩
theorem Sim.pushG {a : Addr} {o1 : Ob} {u : HO} (s : Sim K ρ S H) (ha : H a = none) (r : ObR K (ρ ++ [a]) (upd H a u) o1 a) : Sim K (ρ ++ [a]) (S ++ [o1]) (upd H a u) := by
  have no : ∀ (n : Nat) (o : Ob), o.mut = true → ρ[n]? = some a → S[n]? = some o → False := fun n o hm h1 h2 => by
    have q := s.at' n a _ h1 h2
    cases o with
    | lst xs => obtain ⟨vs, e, _⟩ := q; rw [ha] at e; cases e
    | flst xs => cases hm
    | iset f n => have q : H a = _ := q; rw [ha] at q; cases q
    | dct kvs => obtain ⟨vs, e, _⟩ := q; rw [ha] at e; cases e
    | tdct kvs => obtain ⟨vs, e, _⟩ := q; rw [ha] at e; cases e
    | fdct kvs => obtain ⟨o, vs, e, _⟩ := q; rw [ha] at e; cases e
    | ftdct kvs => obtain ⟨o, vs, e, _⟩ := q; rw [ha] at e; cases e
    | tset ks => obtain ⟨xs, _, e, _⟩ := q; rw [ha] at e; cases e
    | fnc x => cases hm
    | exc c => obtain ⟨C, _, e⟩ := q; rw [ha] at e; cases e
  refine ⟨by simp [s.len], fun i j b x1 x2 h1 h2 h3 h4 m1 m2 => ?_, fun n b o h1 h2 => ?_⟩
  · rcases get_push h3 with h3 | ⟨e3, _⟩ <;> rcases get_push h4 with h4 | ⟨e4, _⟩
    · have l1 := (List.getElem?_eq_some_iff.mp h3).1
      have l2 := (List.getElem?_eq_some_iff.mp h4).1
      rcases get_push h1 with h1 | ⟨e1, f1⟩ <;> rcases get_push h2 with h2 | ⟨e2, f2⟩
      · exact s.nd i j b _ _ h1 h2 h3 h4 m1 m2
      · have := s.len; omega
      · have := s.len; omega
      · have := s.len; omega
    · have l1 := (List.getElem?_eq_some_iff.mp h3).1
      rcases get_push h2 with h2 | ⟨e2, f2⟩
      · have := (List.getElem?_eq_some_iff.mp h2).1; have := s.len; omega
      · subst f2
        rcases get_push h1 with h1 | ⟨e1, _⟩
        · exact (no i _ m1 h1 h3).elim
        · have := s.len; omega
    · have l1 := (List.getElem?_eq_some_iff.mp h4).1
      rcases get_push h1 with h1 | ⟨e2, f2⟩
      · have := (List.getElem?_eq_some_iff.mp h1).1; have := s.len; omega
      · subst f2
        rcases get_push h2 with h2 | ⟨e1, _⟩
        · exact (no j _ m2 h2 h4).elim
        · have := s.len; omega
    · omega
  · rcases get_push h2 with h2 | ⟨e2, f2⟩
    · rcases get_push h1 with h1 | ⟨e1, f1⟩
      · exact ((s.at' n b o h1 h2).laid ha).more ext0_push
      · have := (List.getElem?_eq_some_iff.mp h2).1; have := s.len; omega
    · rcases get_push h1 with h1 | ⟨e1, f1⟩
      · have := (List.getElem?_eq_some_iff.mp h1).1; have := s.len; omega
      · subst f1 f2
        exact r
theorem Sim.push {a : Addr} {xs : List D} {vs : List V} (s : Sim K ρ S H) (ha : H a = none) (r : RDs ρ H xs vs) : Sim K (ρ ++ [a]) (S ++ [.lst xs]) (upd H a (.lst vs)) :=
  s.pushG ha ⟨vs, upd_same, r.mono (ext_newl ha)⟩
theorem get_self {α : Type} (l : List α) (a : α) : (l ++ [a])[l.length]? = some a := by
  rw [List.getElem?_append_right (Nat.le_refl _)]; simp
end
structure RO (ρ : List Addr) (H : Hp) (l : Lo) (σ : St) : Prop where
  len : l.length = σ.length
  get : ∀ (i : Nat) (d : D), l[i]? = some (some d) → ∃ v, σ[i]? = some (some v) ∧ RD ρ H d v
theorem RO.mono {ρ ρ' : List Addr} {H H' : Hp} {l : Lo} {σ : St} (r : RO ρ H l σ) (e : Ext ρ H ρ' H') : RO ρ' H' l σ :=
  ⟨r.len, fun i d h => let ⟨v, h1, h2⟩ := r.get i d h; ⟨v, h1, h2.mono e⟩⟩
theorem RO.set {ρ : List Addr} {H : Hp} {l : Lo} {σ : St} {d : D} {v : V} (r : RO ρ H l σ) (i : Nat) (h : RD ρ H d v) : RO ρ H (l.set i (some d)) (σ.set i (some v)) := by
  refine ⟨by simp [r.len], fun j x hj => ?_⟩
  by_cases hij : i = j
  · subst hij
    have hl : i < l.length := by have := (List.getElem?_eq_some_iff.mp hj).1; simpa using this
    rw [List.getElem?_set_self hl] at hj
    cases hj
    exact ⟨v, List.getElem?_set_self (by rw [← r.len]; exact hl), h⟩
  · rw [List.getElem?_set_ne hij] at hj
    rw [List.getElem?_set_ne hij]
    exact r.get j x hj
noncomputable abbrev EM := Lo → Sto → Option (D × Sto)
noncomputable abbrev TM := Lo → Sto → Option (Bool × Sto)
noncomputable abbrev AM := Lo → Sto → Option (List D × Sto)
noncomputable abbrev FM := List D → Sto → Option (D × Sto)
inductive Fl where
  | nx | bk | ct | rt (d : D)
noncomputable abbrev SM := Lo → Sto → Option (Fl × Lo × Sto)
noncomputable abbrev GM := D → Lo → Sto → Option (Lo × Sto)
noncomputable abbrev GsM := List D → Lo → Sto → Option (Lo × Sto)
noncomputable def Pv (K : PySem.W.Frag) (ρ : List Addr) (H : Hp) (v : D) (S : Sto) (Q : VK) : Prop := ∀ ρ' H' v', Ext ρ H ρ' H' → Sim K ρ' S H' → RD ρ' H' v v' → Q v' H'
theorem Pv.ext {K : PySem.W.Frag} {ρ ρ1 : List Addr} {H H1 : Hp} {v : D} {S : Sto} {Q : VK} (p : Pv K ρ H v S Q) (e : Ext ρ H ρ1 H1) : Pv K ρ1 H1 v S Q := fun ρ' H' v' e' s r => p ρ' H' v' (e.trans e') s r
inductive te (K : PySem.W.Frag) (m : EM) (σ : St) (H : Hp) (Q : VK) : Prop
  | mk (ρ : _) (l : _) (S : _) (v : _) (S' : _) (_ : Sim K ρ S H) (_ : RO ρ H l σ) (_ : m l S = some (v, S')) (_ : Pv K ρ H v S' Q)
inductive tt (K : PySem.W.Frag) (m : TM) (σ : St) (H : Hp) (Q : Bool → Hp → Prop) : Prop
  | mk (ρ : _) (l : _) (S : _) (v : _) (S' : _) (_ : Sim K ρ S H) (_ : RO ρ H l σ) (_ : m l S = some (v, S')) (_ : ∀ ρ' H', Ext ρ H ρ' H' → Sim K ρ' S' H' → Q v H')
inductive ta (K : PySem.W.Frag) (m : AM) (σ : St) (H : Hp) (Q : List V → Hp → Prop) : Prop
  | mk (ρ : _) (l : _) (S : _) (v : _) (S' : _) (_ : Sim K ρ S H) (_ : RO ρ H l σ) (_ : m l S = some (v, S')) (_ : ∀ ρ' H' vs, Ext ρ H ρ' H' → Sim K ρ' S' H' → RDs ρ' H' v vs → Q vs H')
noncomputable def ends (ρ : List Addr) (H : Hp) (E : Ends) (σ : St) : Fl → Prop
  | .nx => E.nx σ H
  | .bk => E.bk σ H
  | .ct => E.ct σ H
  | .rt d => ∀ v, RD ρ H d v → E.rt v H
inductive ts (K : PySem.W.Frag) (m : SM) (E : Ends) (σ : St) (H : Hp) : Prop
  | mk (ρ : _) (l : _) (S : _) (f : _) (l' : _) (S' : _) (_ : Sim K ρ S H) (_ : RO ρ H l σ) (_ : m l S = some (f, l', S')) (_ : ∀ ρ' H' σ', Ext ρ H ρ' H' → Sim K ρ' S' H' → RO ρ' H' l' σ' → ends ρ' H' E σ' f)
inductive tg (K : PySem.W.Frag) (g : GM) (v : V) (σ : St) (H : Hp) (Q : St → Hp → Prop) : Prop
  | mk (ρ : _) (l : _) (S : _) (d : _) (l' : _) (S' : _) (_ : Sim K ρ S H) (_ : RO ρ H l σ) (_ : RD ρ H d v) (_ : g d l S = some (l', S')) (_ : ∀ ρ' H' σ', Ext ρ H ρ' H' → Sim K ρ' S' H' → RO ρ' H' l' σ' → Q σ' H')
inductive tgs (K : PySem.W.Frag) (g : GsM) (vs : List V) (σ : St) (H : Hp) (Q : St → Hp → Prop) : Prop
  | mk (ρ : _) (l : _) (S : _) (ds : _) (l' : _) (S' : _) (_ : Sim K ρ S H) (_ : RO ρ H l σ) (_ : RDs ρ H ds vs) (_ : g ds l S = some (l', S')) (_ : ∀ ρ' H' σ', Ext ρ H ρ' H' → Sim K ρ' S' H' → RO ρ' H' l' σ' → Q σ' H')
noncomputable def PE3 (X : Cx) (e : Expr) (m : EM) : Prop := PE X e (te X.K m)
noncomputable def PT3 (X : Cx) (e : Expr) (m : TM) : Prop := PT X e (tt X.K m)
noncomputable def PW3 (X : Cx) (e : Expr) (m : TM) : Prop := PW X e (tt X.K m)
noncomputable def PA3 (X : Cx) (es : List Expr) (m : AM) : Prop := PA X es (ta X.K m)
noncomputable def PS3 (X : Cx) (st : Stmt) (m : SM) : Prop := PS X st (ts X.K m)
noncomputable def PSs3 (X : Cx) (st : List Stmt) (m : SM) : Prop := PSs X st (ts X.K m)
noncomputable def PG3 (X : Cx) (tg' : Expr) (m : GM) : Prop := PG X tg' (tg X.K m)
noncomputable def PGs3 (X : Cx) (ts' : List Expr) (m : GsM) : Prop := PGs X ts' (tgs X.K m)
theorem PE.imp {X : Cx} {e : Expr} {t u : TE} (h : PE X e t) (i : ∀ σ H Q, u σ H Q → t σ H Q) : PE X e u := fun pins s σ H Q I q => h pins s σ H Q I (i _ _ _ q)
theorem PT.imp {X : Cx} {e : Expr} {t u : TT} (h : PT X e t) (i : ∀ σ H Q, u σ H Q → t σ H Q) : PT X e u := fun pins s σ H Q I q => h pins s σ H Q I (i _ _ _ q)
theorem PW.imp {X : Cx} {e : Expr} {t u : TT} (h : PW X e t) (i : ∀ σ H Q, u σ H Q → t σ H Q) : PW X e u := fun wh pins s σ H Q I q => h wh pins s σ H Q I (i _ _ _ q)
theorem PA.imp {X : Cx} {e : List Expr} {t u : TA} (h : PA X e t) (i : ∀ σ H Q, u σ H Q → t σ H Q) : PA X e u := fun pos pins s σ H Q I q => h pos pins s σ H Q I (i _ _ _ q)
theorem PS.imp {X : Cx} {e : Stmt} {t u : TS} (h : PS X e t) (i : ∀ E σ H, u E σ H → t E σ H) : PS X e u := fun pins s σ H Q I q => h pins s σ H Q I (i _ _ _ q)
theorem PSs.imp {X : Cx} {e : List Stmt} {t u : TS} (h : PSs X e t) (i : ∀ E σ H, u E σ H → t E σ H) : PSs X e u := fun pins s σ H Q I q => h pins s σ H Q I (i _ _ _ q)
theorem PG.imp {X : Cx} {e : Expr} {t u : TG} (h : PG X e t) (i : ∀ v σ H Q, u v σ H Q → t v σ H Q) : PG X e u := fun pins s σ H v w Q I r q => h pins s σ H v w Q I r (i _ _ _ _ q)
theorem PGs.imp {X : Cx} {e : List Expr} {t u : TGs} (h : PGs X e t) (i : ∀ v σ H Q, u v σ H Q → t v σ H Q) : PGs X e u := fun pins s σ H v w Q I r q => h pins s σ H v w Q I r (i _ _ _ _ q)
inductive Bnd {α β : Type} (o : Option α) (f : α → Option β) (b : β) : Prop
  | mk (a : α) (_ : o = some a) (_ : f a = some b)
theorem bnd {α β : Type} {o : Option α} {f : α → Option β} {b : β} (h : o.bind f = some b) : Bnd o f b := by
  obtain ⟨a, h1, h2⟩ := Option.bind_eq_some_iff.mp h
  exact ⟨a, h1, h2⟩
noncomputable def eVar (i : Nat) : EM := fun l S => match l[i]? with
  | some (some d) => some (d, S)
  | _ => none
noncomputable def eC (d : D) : EM := fun _ S => some (d, S)
noncomputable def eOp (f : D → D → Sto → Option (D × Sto)) (a b : EM) : EM := fun l S => (a l S).bind fun p => (b l p.2).bind fun q => f p.1 q.1 q.2
noncomputable def eUn (f : D → Sto → Option (D × Sto)) (a : EM) : EM := fun l S => (a l S).bind fun p => f p.1 p.2
noncomputable def aNil : AM := fun _ S => some ([], S)
noncomputable def aCons (a : EM) (r : AM) : AM := fun l S => (a l S).bind fun p => (r l p.2).bind fun q => some (p.1 :: q.1, q.2)
noncomputable def eCall (f : FM) (as : AM) : EM := fun l S => (as l S).bind fun p => f p.1 p.2
noncomputable def tE (a : EM) : TM := fun l S => (a l S).bind fun p => match p.1 with
  | .bl b => some (b, p.2)
  | _ => none
noncomputable def tAnd3 (a b : TM) : TM := fun l S => (a l S).bind fun p => if p.1 = true then b l p.2 else some (false, p.2)
noncomputable def tOr3 (a b : TM) : TM := fun l S => (a l S).bind fun p => if p.1 = true then some (true, p.2) else b l p.2
noncomputable def tNot3 (a : TM) : TM := fun l S => (a l S).bind fun p => some (!p.1, p.2)
noncomputable def eAnd3 (a b : EM) : EM := fun l S => (a l S).bind fun p => match p.1 with
  | .bl true => b l p.2
  | .bl false => some (.bl false, p.2)
  | _ => none
noncomputable def eOr3 (a b : EM) : EM := fun l S => (a l S).bind fun p => match p.1 with
  | .bl true => some (.bl true, p.2)
  | .bl false => b l p.2
  | _ => none
noncomputable def eNot3 (a : EM) : EM := fun l S => (a l S).bind fun p => match p.1 with
  | .bl b => some (.bl (!b), p.2)
  | _ => none
noncomputable def eIf3 (c : TM) (a b : EM) : EM := fun l S => (c l S).bind fun p => if p.1 = true then a l p.2 else b l p.2
noncomputable def Op3 (K : PySem.W.Frag) (f : D → D → Sto → Option (D × Sto)) (r : R2) : Prop :=
  ∀ ρ S H x y x' y' v S' Q, Sim K ρ S H → RD ρ H x x' → RD ρ H y y' → f x y S = some (v, S') → Pv K ρ H v S' Q → r x' y' H Q
noncomputable def Fn3 (K : PySem.W.Frag) (f : FM) (r : List V → Hp → VK → Prop) : Prop :=
  ∀ ρ S H xs vs v S' Q, Sim K ρ S H → RDs ρ H xs vs → f xs S = some (v, S') → Pv K ρ H v S' Q → r vs H Q
noncomputable def Mt3 (K : PySem.W.Frag) (f : D → List D → Sto → Option (D × Sto)) (r : V → List V → Hp → VK → Prop) : Prop :=
  ∀ ρ S H x x' xs vs v S' Q, Sim K ρ S H → RD ρ H x x' → RDs ρ H xs vs → f x xs S = some (v, S') → Pv K ρ H v S' Q → r x' vs H Q
theorem te_op {K : PySem.W.Frag} {f : D → D → Sto → Option (D × Sto)} {r : R2} (h : Op3 K f r) {a b : EM} (σ : St) (H : Hp) (Q : VK) (q : te K (eOp f a b) σ H Q) : tOp r (te K a) (te K b) σ H Q := by
  obtain ⟨ρ, l, S, v, S', sim, ro, hm, p⟩ := q
  obtain ⟨⟨x, S1⟩, h1, hm⟩ := bnd hm
  obtain ⟨⟨y, S2⟩, h2, hm⟩ := bnd hm
  exact ⟨ρ, l, S, x, S1, sim, ro, h1, fun ρ1 H1 x' e1 s1 r1 => ⟨ρ1, l, S1, y, S2, s1, ro.mono e1, h2, fun ρ2 H2 y' e2 s2 r2 => h ρ2 S2 H2 x y x' y' v S' Q s2 (r1.mono e2) r2 hm (p.ext (e1.trans e2))⟩⟩
section
variable {X : Cx} {a b c : Expr} {es : List Expr} {ma mb : EM} {mA : AM} {pos : Pos}
theorem p3_var (i : Nat) {x : Str} (hN : X.N[i]? = some x := by rfl) (hv : Vis X.env.scope x := by first | exact Or.inl rfl | exact Or.inr (Or.inl rfl) | exact Or.inr (Or.inr rfl)) (hd : (x == ("__debug__" : Str)) = false := by decide)
    (hcd : (x == ("__classdict__" : Str)) = false := by decide) : PE3 X (.Name x pos) (eVar i) :=
  PE.imp (pe_var hN hv hd hcd) fun σ H Q hx1_ => by
    obtain ⟨ρ, l, S, v, S', sim, ro, hm, p⟩ := hx1_
    unfold eVar at hm
    split at hm
    · rename_i d e
      cases hm
      obtain ⟨w, h1, h2⟩ := ro.get i _ e
      exact ⟨w, h1, p ρ H w (Ext.refl ..) sim h2⟩
    · cases hm
theorem te_c {K : PySem.W.Frag} {d : D} {v : V} (h : ∀ ρ H, RD ρ H d v) (σ : St) (H : Hp) (Q : VK) (q : te K (eC d) σ H Q) : tC v σ H Q := by
  obtain ⟨ρ, l, S, w, S', sim, ro, hm, p⟩ := q
  cases hm
  exact p ρ H v (Ext.refl ..) sim (h ρ H)
theorem p3_int {i j} : PE3 X (.Constant (.int i) j pos) (eC (.int i)) := PE.imp pe_int (te_c fun _ _ => .int i)
theorem p3_bl {i j} : PE3 X (.Constant (.bool i) j pos) (eC (.bl i)) := PE.imp pe_bl (te_c fun _ _ => .bl i)
theorem p3_non {j} : PE3 X (.Constant .none j pos) (eC .non) := PE.imp pe_non (te_c fun _ _ => .non)
theorem p3_str {i j} : PE3 X (.Constant (.str i) j pos) (eC (.str i)) := PE.imp pe_str (te_c fun _ _ => .str i)
theorem p3_globI {x : Str} {i : Int} {t : Tok} (hg : Gl X x) (hm : X.mg x = some (.int i t)) (hd : (x == ("__debug__" : Str)) = false := by decide) : PE3 X (.Name x pos) (eC (.int i)) :=
  PE.imp (pe_glob hg hm (v := .int i) ⟨t, rfl⟩ hd) (te_c fun _ _ => .int i)
theorem p3_op {op : Operator} {f : D → D → Sto → Option (D × Sto)} {r : R2} (ho : OpR X (binaryOp op) r) (h3 : Op3 X.K f r) (ha : PE3 X a ma) (hb : PE3 X b mb) : PE3 X (.BinOp a op b pos) (eOp f ma mb) := PE.imp (pe_op ho ha hb) (te_op h3)
theorem p3_cmp {op : CmpOp} {f : D → D → Sto → Option (D × Sto)} {r : R2} (ho : OpR X (compareOp op) r) (h3 : Op3 X.K f r) (ha : PE3 X a ma) (hb : PE3 X b mb) (hm : behindInMarks op b = false) : PE3 X (.Compare a [op] [b] pos) (eOp f ma mb) := PE.imp (pe_cmpR ho ha hb hm) (te_op h3)
theorem tt_e {K : PySem.W.Frag} {m : EM} (σ : St) (H : Hp) (Q : Bool → Hp → Prop) (q : tt K (tE m) σ H Q) : te K m σ H fun x H' => ∃ k, x = .bl k ∧ Q k H' := by
  obtain ⟨ρ, l, S, v, S', sim, ro, hm, p⟩ := q
  obtain ⟨⟨x, S1⟩, h1, hm⟩ := bnd hm
  refine ⟨ρ, l, S, x, S1, sim, ro, h1, fun ρ' H' v' e s r => ?_⟩
  cases r with
  | bl k => cases hm; exact ⟨_, rfl, p ρ' H' e s⟩
  | _ => cases hm
theorem t3_cmp {op : CmpOp} {f : D → D → Sto → Option (D × Sto)} {r : R2} (ho : OpR X (compareOp op) r) (h3 : Op3 X.K f r) (ha : PE3 X a ma) (hb : PE3 X b mb) (hm : behindInMarks op b = false) : PT3 X (.Compare a [op] [b] pos) (tE (eOp f ma mb)) :=
  PT.imp (pt_cmpR ho ha hb hm) fun σ H Q q => te_op h3 σ H _ (tt_e σ H Q q)
theorem t3_val {m : EM} (h : PE3 X a m) (he : ∀ whole, isTrue a X.env whole = (do let v ← whole; standAt a.pos; holding [v] (truthy v)) := by intro _; rfl) : PT3 X a (tE m) :=
  PT.imp (pt_val h he) fun σ H Q q => tt_e σ H Q q
noncomputable def eChain (f g : D → D → Sto → Option (D × Sto)) (a b c : EM) : EM := fun l S => (a l S).bind fun p => (b l p.2).bind fun q => (f p.1 q.1 q.2).bind fun r => match r.1 with
  | .bl true => (c l r.2).bind fun s => g q.1 s.1 s.2
  | .bl false => some (.bl false, r.2)
  | _ => none
theorem te_chain {K : PySem.W.Frag} {f g : D → D → Sto → Option (D × Sto)} {r r' : R2} (h : Op3 K f r) (h' : Op3 K g r') {a b c : EM} (σ : St) (H : Hp) (Q : VK) (q : te K (eChain f g a b c) σ H Q) : tChain r r' (te K a) (te K b) (te K c) σ H Q := by
  obtain ⟨ρ, l, S, v, S', sim, ro, hm, p⟩ := q
  obtain ⟨⟨x, S1⟩, h1, hm⟩ := bnd hm
  obtain ⟨⟨y, S2⟩, h2, hm⟩ := bnd hm
  obtain ⟨⟨z, S3⟩, h3, hm⟩ := bnd hm
  refine ⟨ρ, l, S, x, S1, sim, ro, h1, fun ρ1 H1 x' e1 s1 r1 => ⟨ρ1, l, S1, y, S2, s1, ro.mono e1, h2, fun ρ2 H2 y' e2 s2 r2 => ?_⟩⟩
  refine h ρ2 S2 H2 x y x' y' z S3 _ s2 (r1.mono e2) r2 h3 fun ρ3 H3 z' e3 s3 r3 => ?_
  cases r3 with
  | bl k =>
    refine ⟨k, rfl, ?_⟩
    cases k with
    | false =>
      cases hm
      exact iteF (p ρ3 H3 _ (e1.trans (e2.trans e3)) s3 (.bl false))
    | true =>
      obtain ⟨⟨w, S4⟩, h4, hm⟩ := bnd hm
      exact iteT ⟨ρ3, l, S3, w, S4, s3, ro.mono (e1.trans (e2.trans e3)), h4, fun ρ4 H4 w' e4 s4 r4 => h' ρ4 S4 H4 y w y' w' v S' Q s4 (r2.mono (e3.trans e4)) r4 hm (p.ext (e1.trans (e2.trans (e3.trans e4))))⟩
  | _ => cases hm
theorem p3_chain {op op' : CmpOp} {f g : D → D → Sto → Option (D × Sto)} {r r' : R2} {mc : EM} (ho : OpR X (compareOp op) r) (ho' : OpR X (compareOp op') r') (h3 : Op3 X.K f r) (h3' : Op3 X.K g r') (ha : PE3 X a ma) (hb : PE3 X b mb) (hc : PE3 X c mc)
    (hm : lastMarks [op, op'] [b, c] = false := by with_unfolding_all rfl) : PE3 X (.Compare a [op, op'] [b, c] pos) (eChain f g ma mb mc) := PE.imp (pe_chain ho ho' ha hb hc hm) (te_chain h3 h3')
theorem t3_chain {op op' : CmpOp} {f g : D → D → Sto → Option (D × Sto)} {r r' : R2} {mc : EM} (ho : OpR X (compareOp op) r) (ho' : OpR X (compareOp op') r') (h3 : Op3 X.K f r) (h3' : Op3 X.K g r') (ha : PE3 X a ma) (hb : PE3 X b mb) (hc : PE3 X c mc)
    (hm : lastMarks [op, op'] [b, c] = false := by with_unfolding_all rfl) : PT3 X (.Compare a [op, op'] [b, c] pos) (tE (eChain f g ma mb mc)) :=
  PT.imp (pt_chain ho ho' ha hb hc hm) fun σ H Q q => te_chain h3 h3' σ H _ (tt_e σ H Q q)
variable {t u : TM} {rest : List Expr}
theorem tt_and {K : PySem.W.Frag} (σ : St) (H : Hp) (Q : Bool → Hp → Prop) (q : tt K (tAnd3 t u) σ H Q) : L2.tAnd (tt K t) (tt K u) σ H Q := by
  obtain ⟨ρ, l, S, v, S', sim, ro, hm, p⟩ := q
  obtain ⟨⟨x, S1⟩, h1, hm⟩ := bnd hm
  refine ⟨ρ, l, S, x, S1, sim, ro, h1, fun ρ1 H1 e1 s1 => ?_⟩
  cases x with
  | true => exact iteT ⟨ρ1, l, S1, v, S', s1, ro.mono e1, hm, fun ρ2 H2 e2 s2 => p ρ2 H2 (e1.trans e2) s2⟩
  | false => cases hm; exact iteF (p ρ1 H1 e1 s1)
theorem tt_or {K : PySem.W.Frag} (σ : St) (H : Hp) (Q : Bool → Hp → Prop) (q : tt K (tOr3 t u) σ H Q) : L2.tOr (tt K t) (tt K u) σ H Q := by
  obtain ⟨ρ, l, S, v, S', sim, ro, hm, p⟩ := q
  obtain ⟨⟨x, S1⟩, h1, hm⟩ := bnd hm
  refine ⟨ρ, l, S, x, S1, sim, ro, h1, fun ρ1 H1 e1 s1 => ?_⟩
  cases x with
  | false => exact iteF ⟨ρ1, l, S1, v, S', s1, ro.mono e1, hm, fun ρ2 H2 e2 s2 => p ρ2 H2 (e1.trans e2) s2⟩
  | true => cases hm; exact iteT (p ρ1 H1 e1 s1)
theorem w3_and1 (ha : PT3 X a t) : PW3 X (.BoolOp .And [a] pos) t := pw_and1 ha
theorem w3_or1 (ha : PT3 X a t) : PW3 X (.BoolOp .Or [a] pos) t := pw_or1 ha
theorem w3_and (ha : PT3 X a t) (hb : PW3 X (.BoolOp .And (b :: rest) pos) u) : PW3 X (.BoolOp .And (a :: b :: rest) pos) (tAnd3 t u) := PW.imp (pw_and ha hb) tt_and
theorem w3_or (ha : PT3 X a t) (hb : PW3 X (.BoolOp .Or (b :: rest) pos) u) : PW3 X (.BoolOp .Or (a :: b :: rest) pos) (tOr3 t u) := PW.imp (pw_or ha hb) tt_or
theorem t3_w (h : PW3 X a t) : PT3 X a t := PW.pt h
theorem t3_not (ha : PT3 X a t) : PT3 X (.UnaryOp .Not a pos) (tNot3 t) := PT.imp (pt_not ha) fun σ H Q hx2_ => by
  obtain ⟨ρ, l, S, v, S', sim, ro, hm, p⟩ := hx2_
  obtain ⟨⟨x, S1⟩, h1, hm⟩ := bnd hm
  cases hm
  exact ⟨ρ, l, S, x, S1, sim, ro, h1, p⟩
theorem p3_one {op} (h : PE3 X a ma) : PE3 X (.BoolOp op [a] pos) ma := pe_one h
theorem p3_and (ha : PE3 X a ma) (hb : PE3 X (.BoolOp .And (b :: rest) pos) mb) : PE3 X (.BoolOp .And (a :: b :: rest) pos) (eAnd3 ma mb) := PE.imp (pe_and ha hb) fun σ H Q hx3_ => by
  obtain ⟨ρ, l, S, v, S', sim, ro, hm, p⟩ := hx3_
  obtain ⟨⟨x, S1⟩, h1, hm⟩ := bnd hm
  refine ⟨ρ, l, S, x, S1, sim, ro, h1, fun ρ1 H1 x' e1 s1 r1 => ?_⟩
  cases r1 with
  | bl k =>
    refine ⟨k, rfl, ?_⟩
    cases k with
    | true => exact iteT ⟨ρ1, l, S1, v, S', s1, ro.mono e1, hm, p.ext e1⟩
    | false => cases hm; exact iteF (p ρ1 H1 _ e1 s1 (.bl false))
  | _ => cases hm
theorem p3_or (ha : PE3 X a ma) (hb : PE3 X (.BoolOp .Or (b :: rest) pos) mb) : PE3 X (.BoolOp .Or (a :: b :: rest) pos) (eOr3 ma mb) := PE.imp (pe_or ha hb) fun σ H Q hx4_ => by
  obtain ⟨ρ, l, S, v, S', sim, ro, hm, p⟩ := hx4_
  obtain ⟨⟨x, S1⟩, h1, hm⟩ := bnd hm
  refine ⟨ρ, l, S, x, S1, sim, ro, h1, fun ρ1 H1 x' e1 s1 r1 => ?_⟩
  cases r1 with
  | bl k =>
    refine ⟨k, rfl, ?_⟩
    cases k with
    | false => exact iteF ⟨ρ1, l, S1, v, S', s1, ro.mono e1, hm, p.ext e1⟩
    | true => cases hm; exact iteT (p ρ1 H1 _ e1 s1 (.bl true))
  | _ => cases hm
theorem p3_not (ha : PE3 X a ma) : PE3 X (.UnaryOp .Not a pos) (eNot3 ma) := PE.imp (pe_not ha) fun σ H Q hx5_ => by
  obtain ⟨ρ, l, S, v, S', sim, ro, hm, p⟩ := hx5_
  obtain ⟨⟨x, S1⟩, h1, hm⟩ := bnd hm
  refine ⟨ρ, l, S, x, S1, sim, ro, h1, fun ρ1 H1 x' e1 s1 r1 => ?_⟩
  cases r1 with
  | bl k => cases hm; exact ⟨k, rfl, p ρ1 H1 _ e1 s1 (.bl _)⟩
  | _ => cases hm
theorem p3_ifE {mc : TM} (hc : PT3 X c mc) (ha : PE3 X a ma) (hb : PE3 X b mb) : PE3 X (.IfExp c a b pos) (eIf3 mc ma mb) := PE.imp (pe_ifExp hc ha hb) fun σ H Q hx6_ => by
  obtain ⟨ρ, l, S, v, S', sim, ro, hm, p⟩ := hx6_
  obtain ⟨⟨x, S1⟩, h1, hm⟩ := bnd hm
  refine ⟨ρ, l, S, x, S1, sim, ro, h1, fun ρ1 H1 e1 s1 => ?_⟩
  cases x with
  | true => exact iteT ⟨ρ1, l, S1, v, S', s1, ro.mono e1, hm, p.ext e1⟩
  | false => exact iteF ⟨ρ1, l, S1, v, S', s1, ro.mono e1, hm, p.ext e1⟩
theorem a3_nil : PA3 X [] aNil := PA.imp pa_nil fun σ H Q hx7_ => by
  obtain ⟨ρ, l, S, v, S', sim, ro, hm, p⟩ := hx7_
  cases hm
  exact p ρ H [] (Ext.refl ..) sim .nil
theorem a3_cons (ha : PE3 X a ma) (hr : PA3 X es mA) (hs : starEach (a :: es) X.env = (false, eval a X.env) :: starEach es X.env := by rfl) : PA3 X (a :: es) (aCons ma mA) := PA.imp (pa_cons ha hr hs) fun σ H Q hx8_ => by
  obtain ⟨ρ, l, S, v, S', sim, ro, hm, p⟩ := hx8_
  obtain ⟨⟨x, S1⟩, h1, hm⟩ := bnd hm
  obtain ⟨⟨y, S2⟩, h2, hm⟩ := bnd hm
  cases hm
  exact ⟨ρ, l, S, x, S1, sim, ro, h1, fun ρ1 H1 x' e1 s1 r1 => ⟨ρ1, l, S1, y, _, s1, ro.mono e1, h2, fun ρ2 H2 vs e2 s2 r2 => p ρ2 H2 _ (e1.trans e2) s2 (.cons (r1.mono e2) r2)⟩⟩
noncomputable def fTup : FM := fun xs S => if xs.length ≤ sizeLine then some (.tup xs, S) else none
noncomputable def fLst : FM := fun xs S => if xs.length ≤ sizeLine then some (.ref S.length, S ++ [.lst xs]) else none
theorem ite_some {α : Type} {c : Prop} [Decidable c] {a b : α} (h : (if c then some a else none) = some b) : c ∧ a = b := by
  by_cases hc : c
  · rw [if_pos hc] at h; exact ⟨hc, Option.some.inj h⟩
  · rw [if_neg hc] at h; cases h
theorem new_tup {K : PySem.W.Frag} {ρ : List Addr} {S : Sto} {H : Hp} {xs : List D} {vs : List V} {Q : VK} (sim : Sim K ρ S H) (r : RDs ρ H xs vs) (p : Pv K ρ H (.tup xs) S Q) : ∀ a, H a = none → Q (.ref a) (upd H a (.tup vs)) := fun a ha =>
  p ρ _ _ (ext_new ha) (sim.laid ha) (.tup upd_same (r.mono (ext_new ha)))
theorem new_lst {K : PySem.W.Frag} {ρ : List Addr} {S : Sto} {H : Hp} {xs : List D} {vs : List V} {Q : VK} (sim : Sim K ρ S H) (r : RDs ρ H xs vs) (p : Pv K ρ H (.ref S.length) (S ++ [.lst xs]) Q) : ∀ a, H a = none → Q (.ref a) (upd H a (.lst vs)) := fun a ha =>
  p (ρ ++ [a]) _ _ (ext_newl ha) (sim.push ha r) (.ref (by rw [← sim.len]; exact get_self ρ a))
theorem p3_tup {x1} (h : PA3 X es mA) : PE3 X (.Tuple es x1 pos) (eCall fTup mA) := PE.imp (pe_tup h) fun σ H Q hx9_ => by
  obtain ⟨ρ, l, S, v, S', sim, ro, hm, p⟩ := hx9_
  obtain ⟨⟨x, S1⟩, h1, hm⟩ := bnd hm
  obtain ⟨hz, e⟩ := ite_some hm
  cases e
  exact ⟨ρ, l, S, x, _, sim, ro, h1, fun ρ1 H1 vs e1 s1 r1 => ⟨by rw [← r1.length]; exact hz, new_tup s1 r1 (p.ext e1)⟩⟩
theorem p3_lst (h : PA3 X es mA) : PE3 X (.List es pos) (eCall fLst mA) := PE.imp (pe_lst h) fun σ H Q hx10_ => by
  obtain ⟨ρ, l, S, v, S', sim, ro, hm, p⟩ := hx10_
  obtain ⟨⟨x, S1⟩, h1, hm⟩ := bnd hm
  obtain ⟨hz, e⟩ := ite_some hm
  cases e
  exact ⟨ρ, l, S, x, _, sim, ro, h1, fun ρ1 H1 vs e1 s1 r1 => ⟨by rw [← r1.length]; exact hz, new_lst s1 r1 (p.ext e1)⟩⟩
theorem te_call {K : PySem.W.Frag} {f : FM} {r : List V → Hp → VK → Prop} (h3 : Fn3 K f r) (σ : St) (H : Hp) (Q : VK) (q : te K (eCall f mA) σ H Q) : tCB r (ta K mA) σ H Q := by
  obtain ⟨ρ, l, S, v, S', sim, ro, hm, p⟩ := q
  obtain ⟨⟨x, S1⟩, h1, hm⟩ := bnd hm
  exact ⟨ρ, l, S, x, S1, sim, ro, h1, fun ρ1 H1 vs e1 s1 r1 => h3 ρ1 S1 H1 x vs v S' Q s1 r1 hm (p.ext e1)⟩
theorem p3_callB {x : Str} {p : Pos} {id : String} {f : FM} {r : List V → Hp → VK → Prop} (hc : CallR X (.builtin id) r) (h3 : Fn3 X.K f r) (hg : Gl X x) (hm : X.mg x = none) (hv : bootBuiltins x = some (.builtin id)) (ha : PA3 X (a :: es) mA) (hn : x ≠ "__name__" := by decide) (hdb : (x == ("__debug__" : Str)) = false := by decide)
    (he : starEach (a :: es) X.env = (false, eval a X.env) :: starEach es X.env := by rfl) (hpl : (backTo pos (starEach es X.env)).any (·.1) = false := by rfl) : PE3 X (.Call (.Name x p) (a :: es) [] pos) (eCall f mA) :=
  PE.imp (pe_callB hc hg hm hv ha hn hdb he hpl) (te_call h3)
theorem p3_callTy {x : Str} {p : Pos} {T : String} {f : FM} {r : List V → Hp → VK → Prop} (hc : CallR X (.type T) r) (h3 : Fn3 X.K f r) (hg : Gl X x) (hm : X.mg x = none) (hv : bootBuiltins x = some (.type T)) (ha : PA3 X (a :: es) mA) (hn : x ≠ "__name__" := by decide) (hdb : (x == ("__debug__" : Str)) = false := by decide)
    (he : starEach (a :: es) X.env = (false, eval a X.env) :: starEach es X.env := by rfl) (hpl : (backTo pos (starEach es X.env)).any (·.1) = false := by rfl) : PE3 X (.Call (.Name x p) (a :: es) [] pos) (eCall f mA) :=
  PE.imp (pe_callTy hc hg hm hv ha hn hdb he hpl) (te_call h3)
end
end L3
namespace L3
open PySem PySem.Spec PyProof.Rows L2
noncomputable def oI (C : Int → Int → Bool) (g : Int → Int → D) : D → D → Sto → Option (D × Sto)
  | .int i, .int j, S => if C i j = true then some (g i j, S) else none
  | _, _, _ => none
noncomputable def oI0 (g : Int → Int → D) : D → D → Sto → Option (D × Sto)
  | .int i, .int j, S => some (g i j, S)
  | _, _, _ => none
theorem op3_I {K : PySem.W.Frag} {C : Int → Int → Bool} {C' : Int → Int → Prop} {g : Int → Int → D} {g' : Int → Int → V} (hC : ∀ i j, C i j = true → C' i j) (hg : ∀ ρ H i j, RD ρ H (g i j) (g' i j)) : Op3 K (oI C g) (rI C' g') := by
  intro ρ S H x y x' y' v S' Q sim rx ry h p
  unfold oI at h
  split at h
  · rename_i i j
    cases rx; cases ry
    obtain ⟨hc, e⟩ := ite_some h
    cases e
    exact ⟨i, j, rfl, rfl, hC i j hc, p ρ H _ (Ext.refl ..) sim (hg ρ H i j)⟩
  · cases h
theorem op3_I0 {K : PySem.W.Frag} {g : Int → Int → D} {g' : Int → Int → V} (hg : ∀ ρ H i j, RD ρ H (g i j) (g' i j)) : Op3 K (oI0 g) (rI0 g') := by
  intro ρ S H x y x' y' v S' Q sim rx ry h p
  unfold oI0 at h
  split at h
  · rename_i i j
    cases rx; cases ry
    cases h
    exact ⟨i, j, rfl, rfl, p ρ H _ (Ext.refl ..) sim (hg ρ H i j)⟩
  · cases h
theorem Op3.or {K : PySem.W.Frag} {f : D → D → Sto → Option (D × Sto)} {g : D → D → Sto → Option (D × Sto)} {r r' : R2} (h : Op3 K f r) (h' : Op3 K g r') : Op3 K (fun x y S => match f x y S with | some v => some v | none => g x y S) (fun x y H Q => r x y H Q ∨ r' x y H Q) := by
  intro ρ S H x y x' y' v S' Q sim rx ry hm p
  dsimp only at hm
  cases e : f x y S with
  | some w => rw [e] at hm; cases hm; exact .inl (h ρ S H x y x' y' _ _ Q sim rx ry e p)
  | none => rw [e] at hm; exact .inr (h' ρ S H x y x' y' _ _ Q sim rx ry hm p)
noncomputable abbrev dSub := oI0 fun i j => .int (i - j)
noncomputable abbrev dDiv := oI (fun i j => decide (0 < j ∧ j < 1073741824)) fun i j => .int (i / j)
noncomputable abbrev dMod := oI (fun i j => decide (0 < j)) fun i j => .int (i % j)
noncomputable abbrev dPow := oI (fun i j => decide (0 ≤ j ∧ j ≤ 1000000 ∧ i.natAbs < 2 ^ 64)) fun i j => .int (i ^ j.toNat)
noncomputable abbrev dLt := oI0 fun i j => .bl (decide (i < j))
noncomputable abbrev dLe := oI0 fun i j => .bl (decide (i ≤ j))
noncomputable abbrev dGt := oI0 fun i j => .bl (decide (j < i))
noncomputable abbrev dGe := oI0 fun i j => .bl (decide (j ≤ i))
section
variable {X : Cx} {a b : Expr} {ma mb : EM} {pos : Pos}
theorem p3_sub (ha : PE3 X a ma) (hb : PE3 X b mb) : PE3 X (.BinOp a .Sub b pos) (eOp dSub ma mb) := p3_op op_sub (op3_I0 fun _ _ _ _ => .int _) ha hb
theorem p3_div (ha : PE3 X a ma) (hb : PE3 X b mb) : PE3 X (.BinOp a .FloorDiv b pos) (eOp dDiv ma mb) := p3_op op_fdiv (op3_I (fun i j h => by first | (unfold CMul; exact of_decide_eq_true h) | (unfold CDiv; exact of_decide_eq_true h) | (unfold CPow; exact of_decide_eq_true h) | exact of_decide_eq_true h) fun _ _ _ _ => .int _) ha hb
theorem p3_mod (ha : PE3 X a ma) (hb : PE3 X b mb) : PE3 X (.BinOp a .Mod b pos) (eOp dMod ma mb) := p3_op op_mod (op3_I (fun i j h => by first | (unfold CMul; exact of_decide_eq_true h) | (unfold CDiv; exact of_decide_eq_true h) | (unfold CPow; exact of_decide_eq_true h) | exact of_decide_eq_true h) fun _ _ _ _ => .int _) ha hb
theorem p3_pow (ha : PE3 X a ma) (hb : PE3 X b mb) : PE3 X (.BinOp a .Pow b pos) (eOp dPow ma mb) := p3_op op_pow (op3_I (fun i j h => by first | (unfold CMul; exact of_decide_eq_true h) | (unfold CDiv; exact of_decide_eq_true h) | (unfold CPow; exact of_decide_eq_true h) | exact of_decide_eq_true h) fun _ _ _ _ => .int _) ha hb
theorem t3_lt (ha : PE3 X a ma) (hb : PE3 X b mb) : PT3 X (.Compare a [.Lt] [b] pos) (tE (eOp dLt ma mb)) := t3_cmp op_lt (op3_I0 fun _ _ _ _ => .bl _) ha hb (nomark b)
theorem t3_le (ha : PE3 X a ma) (hb : PE3 X b mb) : PT3 X (.Compare a [.LtE] [b] pos) (tE (eOp dLe ma mb)) := t3_cmp op_le (op3_I0 fun _ _ _ _ => .bl _) ha hb (nomark b)
theorem t3_gt (ha : PE3 X a ma) (hb : PE3 X b mb) : PT3 X (.Compare a [.Gt] [b] pos) (tE (eOp dGt ma mb)) := t3_cmp op_gt (op3_I0 fun _ _ _ _ => .bl _) ha hb (nomark b)
theorem t3_ge (ha : PE3 X a ma) (hb : PE3 X b mb) : PT3 X (.Compare a [.GtE] [b] pos) (tE (eOp dGe ma mb)) := t3_cmp op_ge (op3_I0 fun _ _ _ _ => .bl _) ha hb (nomark b)
end
noncomputable def sEq : D → D → Option Bool
  | .non, .non => some true | .non, .int _ => some false | .int _, .non => some false | .non, .bl _ => some false | .bl _, .non => some false | .non, .str _ => some false | .str _, .non => some false
  | .int i, .int j => some (decide (i = j)) | .bl i, .bl j => some (decide (i = j)) | .str i, .str j => some (decide (i = j))
  | .int _, .str _ => some false | .str _, .int _ => some false | .bl _, .str _ => some false | .str _, .bl _ => some false
  | _, _ => none
noncomputable def dEq : D → D → Sto → Option (D × Sto) := fun x y S => (sEq x y).bind fun b => some (.bl b, S)
noncomputable def dNe : D → D → Sto → Option (D × Sto) := fun x y S => (sEq x y).bind fun b => some (.bl (!b), S)
theorem sEq_ok {ρ : List Addr} {H : Hp} {x y : D} {x' y' : V} {b : Bool} (rx : RD ρ H x x') (ry : RD ρ H y y') (h : sEq x y = some b) : scal x' y' = true ∧ decide (x' = y') = b := by
  cases rx <;> cases ry <;> first
    | (unfold sEq at h; cases h; exact ⟨rfl, by simp⟩)
    | (unfold sEq at h; cases h; exact ⟨rfl, by simp; rfl⟩)
    | (unfold sEq at h; cases h)
theorem op3_eq {K : PySem.W.Frag} : Op3 K dEq rEq := by
  intro ρ S H x y x' y' v S' Q sim rx ry h p
  obtain ⟨b, h1, h⟩ := bnd h
  cases h
  obtain ⟨h2, h3⟩ := sEq_ok rx ry h1
  exact ⟨h2, by rw [h3]; exact p ρ H _ (Ext.refl ..) sim (.bl b)⟩
theorem op3_ne {K : PySem.W.Frag} : Op3 K dNe rNe := by
  intro ρ S H x y x' y' v S' Q sim rx ry h p
  obtain ⟨b, h1, h⟩ := bnd h
  cases h
  obtain ⟨h2, h3⟩ := sEq_ok rx ry h1
  exact ⟨h2, by rw [h3]; exact p ρ H _ (Ext.refl ..) sim (.bl _)⟩
noncomputable def isNon : D → Bool
  | .non => true
  | _ => false
noncomputable def dIs : D → D → Sto → Option (D × Sto)
  | x, .non, S => some (.bl (isNon x), S)
  | _, _, _ => none
noncomputable def dIsNot : D → D → Sto → Option (D × Sto)
  | x, .non, S => some (.bl (!isNon x), S)
  | _, _, _ => none
theorem isNon_ok {ρ : List Addr} {H : Hp} {x : D} {x' : V} (r : RD ρ H x x') : decide (x' = .non) = isNon x := by
  cases r <;> simp [isNon]
theorem op3_is {K : PySem.W.Frag} : Op3 K dIs (fun x y H Q => y = .non ∧ Q (.bl (decide (x = .non))) H) := by
  intro ρ S H x y x' y' v S' Q sim rx ry h p
  unfold dIs at h
  split at h
  · cases h; cases ry
    exact ⟨rfl, by rw [isNon_ok rx]; exact p ρ H _ (Ext.refl ..) sim (.bl _)⟩
  · cases h
section
variable {X : Cx} {a b : Expr} {ma mb : EM} {pos : Pos}
theorem p3_is (ha : PE3 X a ma) (hb : PE3 X b mb) : PE3 X (.Compare a [.Is] [b] pos) (eOp dIs ma mb) := p3_cmp op_isN op3_is ha hb (nomark b)
theorem t3_eq (ha : PE3 X a ma) (hb : PE3 X b mb) : PT3 X (.Compare a [.Eq] [b] pos) (tE (eOp dEq ma mb)) := t3_cmp op_eq op3_eq ha hb (nomark b)
theorem t3_ne (ha : PE3 X a ma) (hb : PE3 X b mb) : PT3 X (.Compare a [.NotEq] [b] pos) (tE (eOp dNe ma mb)) := t3_cmp op_ne op3_ne ha hb (nomark b)
theorem t3_is (ha : PE3 X a ma) (hb : PE3 X b mb) : PT3 X (.Compare a [.Is] [b] pos) (tE (eOp dIs ma mb)) := t3_cmp op_isN op3_is ha hb (nomark b)
end
noncomputable def dIx : D → D → Sto → Option (D × Sto)
  | .tup xs, .int i, S => (atI xs i).bind fun v => some (v, S)
  | .ref n, .int i, S => (lstOf S n).bind fun xs => (atI xs i).bind fun v => some (v, S)
  | _, _, _ => none
theorem atI_rd {ρ : List Addr} {H : Hp} {xs : List D} {vs : List V} {i : Int} {x : D} (r : RDs ρ H xs vs) (h : atI xs i = some x) : ∃ v, atI vs i = some v ∧ RD ρ H x v := by
  unfold atI at h ⊢
  rw [← r.length]
  cases e : ixN xs.length i with
  | none => rw [e] at h; cases h
  | some j =>
    rw [e] at h
    exact r.get (i := j) h
theorem op3_ix {K : PySem.W.Frag} : Op3 K dIx (rIx K) := by
  intro ρ S H x y x' y' v S' Q sim rx ry h p
  unfold dIx at h
  split at h
  · cases ry
    obtain ⟨w, h1, h⟩ := bnd h
    cases h
    cases rx with
    | tup ha r =>
      obtain ⟨u, h2, r2⟩ := atI_rd r h1
      exact .inr (.inl ⟨_, _, _, u, rfl, rfl, SqT.of ha, h2, p ρ H u (Ext.refl ..) sim r2⟩)
  · cases ry
    obtain ⟨xs, h0, h⟩ := bnd h
    obtain ⟨w, h1, h⟩ := bnd h
    cases h
    cases rx with
    | ref hn =>
      obtain ⟨a, vs, ha, sq, r⟩ := sim.lstOf h0
      rw [ha] at hn; cases hn
      obtain ⟨u, h2, r2⟩ := atI_rd r h1
      exact .inl ⟨_, _, _, u, rfl, rfl, sq, h2, p ρ H u (Ext.refl ..) sim r2⟩
  · cases h
section
variable {X : Cx} {a b : Expr} {ma mb : EM} {pos : Pos}
end
noncomputable abbrev OM := Lo → Sto → Option (Option Int × Sto)
noncomputable def oNone : OM := fun _ S => some (none, S)
noncomputable def oSome (m : EM) : OM := fun l S => (m l S).bind fun p => match p.1 with
  | .int i => some (some i, p.2)
  | _ => none
noncomputable def cutD (xs : List D) (lo hi : Option Int) : List D := (xs.drop (HT.sIx xs.length 0 lo)).take (HT.sIx xs.length xs.length hi - HT.sIx xs.length 0 lo)
section
variable {X : Cx} {a b : Expr} {ma mb : EM} {pos p2 : Pos} {lo hi : Option Expr} {ml mh : OM}
theorem PO.imp {e : Option Expr} {t u : TO} (h : PO X e t) (i : ∀ σ H Q, u σ H Q → t σ H Q) : PO X e u := fun pins s σ H Q I q => h pins s σ H Q I (i _ _ _ q)
end
end L3
namespace HT
open PySem PyProof.Rows
section
variable {prog : Program} {w : World} {A : Around} {E : Value → Shared → Prop} {s : Shared}
end
end HT
namespace L3
open PySem PySem.Spec PyProof.Rows L2
section
variable {X : Cx} {a b : Expr} {ma mb : EM} {pos p2 : Pos} {lo hi : Option Expr} {ml mh : OM}
end
noncomputable def dCatT : D → D → Sto → Option (D × Sto)
  | .tup xs, .tup ys, S => if xs.length + ys.length ≤ sizeLine then some (.tup (xs ++ ys), S) else none
  | _, _, _ => none
noncomputable def rCatT0 (K : PySem.W.Frag) : R2 := fun x y H Q => ∃ a b ys, x = .ref a ∧ y = .ref b ∧ SqT K H a [] ∧ SqT K H b ys ∧ Q (.ref b) H
theorem op_catT0 {X : Cx} : OpR X (binaryOp .Add) (rCatT0 X.K) := by
  intro pins s σ H x y v u Q I rx ry h
  obtain ⟨a, b, ys, rfl, rfl, ha, hb, q⟩ := h
  cases rx
  cases ry
  obtain ⟨its, r1, p1, _⟩ := I.tuple ha
  obtain ⟨its2, r2, p2, _⟩ := I.tuple hb
  cases r1
  obtain ⟨⟨cls, dd, data, sl⟩, ho, hc, n, hd⟩ := id p1
  obtain ⟨⟨cls2, dd2, data2, sl2⟩, ho2, hc2, n2, hd2⟩ := id p2
  simp only at hc hd hc2 hd2
  subst hc hd hc2 hd2
  exact concat_meets ⟨_, ho, rfl⟩ ⟨_, ho2, rfl⟩ noFill_tuple_add seq_tuple_add PySem.F.slot_tuple_add PySem.F.entry_tuple_add (PySem.F.args_tuple_add_2 _ _)
      (tuple_addW0 a b ([] : List Value).toArray its2.toArray n n2 dd dd2 sl sl2 (by simp)) ⟨ho, ho2, ⟨.ref b, H, I, rfl, q⟩⟩
theorem op3_catT {K : PySem.W.Frag} : Op3 K dCatT (fun x y H Q => rCatT K x y H Q ∨ rCatT0 K x y H Q) := by
  intro ρ S H x y x' y' v S' Q sim rx ry h p
  unfold dCatT at h
  split at h
  · obtain ⟨hz, e⟩ := ite_some h
    cases e
    cases rx with
    | @tup xs a vs ha r =>
      cases ry with
      | @tup ys b ws hb q =>
        cases r with
        | nil => exact .inr ⟨a, b, ws, rfl, rfl, SqT.of ha, SqT.of hb, p ρ H _ (Ext.refl ..) sim (.tup hb q)⟩
        | cons r1 r2 =>
          refine .inl ⟨a, b, _, ws, rfl, rfl, SqT.of ha, SqT.of hb, by simp, by rw [← (RDs.cons r1 r2).length, ← q.length]; exact hz, fun e => ?_, fun _ => ?_⟩
          · subst e
            cases q
            rw [List.append_nil] at p
            exact p ρ H _ (Ext.refl ..) sim (.tup ha (.cons r1 r2))
          · exact new_tup sim ((RDs.cons r1 r2).append q) p
  · cases h
section
variable {X : Cx} {a b : Expr} {ma mb : EM} {pos : Pos}
end
end L3
namespace L3
open PySem PySem.Spec PyProof.Rows L2
noncomputable def fLen : FM
  | [.tup xs], S => some (.int xs.length, S)
  | [.ref n], S => (lstOf S n).bind fun xs => some (.int xs.length, S)
  | _, _ => none
noncomputable def fAbs : FM
  | [.int i], S => some (.int (if i < 0 then -i else i), S)
  | _, _ => none
noncomputable def fInt : FM
  | [.int i], S => some (.int i, S)
  | [.bl b], S => some (.int (if b then 1 else 0), S)
  | _, _ => none
noncomputable def fTuple : FM
  | [.tup xs], S => some (.tup xs, S)
  | [.ref n], S => (lstOf S n).bind fun xs => some (.tup xs, S)
  | _, _ => none
noncomputable def fList : FM
  | [.tup xs], S => some (.ref S.length, S ++ [.lst xs])
  | [.ref n], S => (lstOf S n).bind fun xs => some (.ref S.length, S ++ [.lst xs])
  | _, _ => none
noncomputable def fMin2 : FM
  | [.int i, .int j], S => some (.int (if j < i then j else i), S)
  | _, _ => none
noncomputable def fMax2 : FM
  | [.int i, .int j], S => some (.int (if j > i then j else i), S)
  | _, _ => none
section
variable {K : PySem.W.Frag}
theorem fn3_len : Fn3 K fLen (fun xs H Q => ∃ p ys, xs = [.ref p] ∧ (SqL K H p ys ∨ SqT K H p ys) ∧ Q (.int ys.length) H) := by
  intro ρ S H xs vs v S' Q sim r h p
  unfold fLen at h
  split at h
  · cases h
    obtain ⟨w, rfl, rw'⟩ := r.one
    cases rw' with
    | tup ha r2 => exact ⟨_, _, rfl, .inr (SqT.of ha), by rw [← r2.length]; exact p ρ H _ (Ext.refl ..) sim (.int _)⟩
  · obtain ⟨ys, h1, h⟩ := bnd h
    cases h
    obtain ⟨w, rfl, rw'⟩ := r.one
    obtain ⟨a, us, ha, sq, r2⟩ := sim.lstOf h1
    cases rw' with
    | ref hn =>
      rw [ha] at hn; cases hn
      exact ⟨_, _, rfl, .inl sq, by rw [← r2.length]; exact p ρ H _ (Ext.refl ..) sim (.int _)⟩
  · cases h
theorem fn3_min2 : Fn3 K fMin2 (fun xs H Q => ∃ i j, xs = [.int i, .int j] ∧ Q (.int (if j < i then j else i)) H) := by
  intro ρ S H xs vs v S' Q sim r h p
  unfold fMin2 at h
  split at h
  · cases h
    obtain ⟨w, u, rfl, rw', ru⟩ := r.two
    cases rw'; cases ru
    exact ⟨_, _, rfl, p ρ H _ (Ext.refl ..) sim (.int _)⟩
  · cases h
theorem fn3_max2 : Fn3 K fMax2 (fun xs H Q => ∃ i j, xs = [.int i, .int j] ∧ Q (.int (if j > i then j else i)) H) := by
  intro ρ S H xs vs v S' Q sim r h p
  unfold fMax2 at h
  split at h
  · cases h
    obtain ⟨w, u, rfl, rw', ru⟩ := r.two
    cases rw'; cases ru
    exact ⟨_, _, rfl, p ρ H _ (Ext.refl ..) sim (.int _)⟩
  · cases h
theorem fn3_tuple : Fn3 K fTuple (fun xs H Q => ∃ p ys, xs = [.ref p] ∧ ((SqL K H p ys ∧ ∀ l, H l = none → Q (.ref l) (upd H l (.tup ys))) ∨ (SqT K H p ys ∧ Q (.ref p) H))) := by
  intro ρ S H xs vs v S' Q sim r h p
  unfold fTuple at h
  split at h
  · cases h
    obtain ⟨w, rfl, rw'⟩ := r.one
    cases rw' with
    | tup ha r2 => exact ⟨_, _, rfl, .inr ⟨SqT.of ha, p ρ H _ (Ext.refl ..) sim (.tup ha r2)⟩⟩
  · obtain ⟨ys, h1, h⟩ := bnd h
    cases h
    obtain ⟨w, rfl, rw'⟩ := r.one
    obtain ⟨a, us, ha, sq, r2⟩ := sim.lstOf h1
    cases rw' with
    | ref hn =>
      rw [ha] at hn; cases hn
      exact ⟨_, _, rfl, .inl ⟨sq, new_tup sim r2 p⟩⟩
  · cases h
theorem fn3_list : Fn3 K fList (fun xs H Q => ∃ p ys, xs = [.ref p] ∧ (SqL K H p ys ∨ SqT K H p ys) ∧ ∀ l, H l = none → Q (.ref l) (upd H l (.lst ys))) := by
  intro ρ S H xs vs v S' Q sim r h p
  unfold fList at h
  split at h
  · cases h
    obtain ⟨w, rfl, rw'⟩ := r.one
    cases rw' with
    | tup ha r2 => exact ⟨_, _, rfl, .inr (SqT.of ha), new_lst sim r2 p⟩
  · obtain ⟨ys, h1, h⟩ := bnd h
    cases h
    obtain ⟨w, rfl, rw'⟩ := r.one
    obtain ⟨a, us, ha, sq, r2⟩ := sim.lstOf h1
    cases rw' with
    | ref hn =>
      rw [ha] at hn; cases hn
      exact ⟨_, _, rfl, .inl sq, new_lst sim r2 p⟩
  · cases h
end
noncomputable def tyD (S : Sto) : D → Option String
  | .non => some "NoneType" | .bl _ => some "bool" | .int _ => some "int" | .str _ => some "str" | .tup _ => some "tuple"
  | .ref n => match S[n]? with
    | some (.lst _) => some "list"
    | some (.dct _) => some "dict"
    | _ => none
  | .fn _ => none
noncomputable def isI (T U : String) : Bool := T == U || (T == "bool" && U == "int")
noncomputable def fIsI (U : String) : D → Sto → Option (D × Sto) := fun x S => (tyD S x).bind fun T => some (.bl (isI T U), S)
noncomputable def mAppend : D → List D → Sto → Option (D × Sto)
  | .ref n, [x], S => match S[n]? with
    | some (.lst xs) => if xs.length < sizeLine then some (.non, S.set n (.lst (xs ++ [x]))) else none
    | _ => none
  | _, _, _ => none
theorem RDs.dropLast {ρ : List Addr} {H : Hp} {xs : List D} {vs : List V} (h : RDs ρ H xs vs) : RDs ρ H xs.dropLast vs.dropLast := by
  rw [List.dropLast_eq_take, List.dropLast_eq_take, h.length]
  exact h.take _
section
variable {K : PySem.W.Frag}
theorem mt3_append : Mt3 K mAppend rAppend := by
  intro ρ S H x x' xs vs v S' Q sim rx r h p
  unfold mAppend at h
  split at h
  · split at h
    · rename_i n y S ys e
      obtain ⟨hz, e2⟩ := ite_some h
      cases e2
      obtain ⟨w, rfl, rw'⟩ := r.one
      obtain ⟨a, us, ha, hH, r2⟩ := sim.lst e
      cases rx with
      | ref hn =>
        rw [ha] at hn; cases hn
        exact ⟨a, us, w, rfl, rfl, hH, by rw [← r2.length]; exact hz, p ρ _ _ (ext_upd ha hH) (sim.set ha e hH (r2.append (.cons rw' .nil))) .non⟩
    · cases h
  · cases h
end
noncomputable def recvL : D → Sto → Option (List D)
  | .ref n, S => lstOf S n
  | _, _ => none
noncomputable def eMethL (f : D → List D → Sto → Option (D × Sto)) (o : EM) (as : AM) : EM := fun l S => (o l S).bind fun p => (recvL p.1 p.2).bind fun _ => (as l p.2).bind fun q => f p.1 q.1 q.2
section
variable {X : Cx} {a o e : Expr} {es : List Expr} {mo : EM} {mA : AM} {name : Str} {apos cpos pos : Pos} {id : String} {f : D → List D → Sto → Option (D × Sto)} {r : V → List V → Hp → VK → Prop}
theorem recv_ok {K : PySem.W.Frag} {ρ : List Addr} {S : Sto} {H : Hp} {x : D} {x' : V} {xs : List D} (sim : Sim K ρ S H) (rx : RD ρ H x x') (h : recvL x S = some xs) : tyV K "list" x' H := by
  unfold recvL at h
  split at h
  · obtain ⟨a, us, ha, sq, r2⟩ := sim.lstOf h
    cases rx with
    | ref hn =>
      rw [ha] at hn; cases hn
      exact .inl ⟨rfl, us, sq⟩
  · cases h
theorem p3_bm (slot : Slot "list" name id) (hty : typeOf (.builtin id) = pure (.type "method_descriptor")) (hm : MtM X id r) (h3 : Mt3 X.K f r) (ho : PE3 X o mo) (ha : PA3 X (e :: es) mA)
    (hbase : attributeBase o name X.env (eval o X.env) = eval o X.env := by rfl)
    (hfew : ((backTo cpos (starEach (e :: es) X.env)).all (fun x => !x.1) && (backToKw cpos (keywordEach [] X.env)).all (fun x => x.1.isSome)
      && decide ((e :: es).length + ([] : List Keyword).length + (if ([] : List Keyword).isEmpty then 0 else 1) < 30)) = true := by rfl)
    (hline : (apos.endLine == cpos.line) = true := by rfl) (hs : starEach (e :: es) X.env = (false, eval e X.env) :: starEach es X.env := by rfl) (hplain : (backTo cpos (starEach es X.env)).any (·.1) = false := by rfl) :
    PE3 X (.Call (.Attribute o name apos) (e :: es) [] cpos) (eMethL f mo mA) :=
  PE.imp (pe_bm PySem.F.plainAttrs_list slot hty hm ho ha hbase hfew hline hs hplain) fun σ H Q hx1_ => by
    obtain ⟨ρ, l, S, v, S', sim, ro, hq, p⟩ := hx1_
    obtain ⟨⟨x, S1⟩, h1, hq⟩ := bnd hq
    obtain ⟨xs, h2, hq⟩ := bnd hq
    obtain ⟨⟨ys, S2⟩, h4, hq⟩ := bnd hq
    exact ⟨ρ, l, S, x, S1, sim, ro, h1, fun ρ1 H1 x' e1 s1 r1 => ⟨recv_ok s1 r1 h2, ρ1, l, S1, ys, S2, s1, ro.mono e1, h4, fun ρ2 H2 vs e2 s2 r2 => h3 ρ2 S2 H2 x x' ys vs v S' Q s2 (r1.mono e2) r2 hq (p.ext (e1.trans e2))⟩⟩
theorem p3_append {m : EM} (ho : PE3 X o mo) (he : PE3 X e m)
    (hbase : attributeBase o "append" X.env (eval o X.env) = eval o X.env := by rfl)
    (hfew : ((backTo cpos (starEach [e] X.env)).all (fun x => !x.1) && (backToKw cpos (keywordEach [] X.env)).all (fun x => x.1.isSome)
      && decide ([e].length + ([] : List Keyword).length + (if ([] : List Keyword).isEmpty then 0 else 1) < 30)) = true := by rfl)
    (hline : (apos.endLine == cpos.line) = true := by rfl) (hs : starEach [e] X.env = (false, eval e X.env) :: starEach [] X.env := by rfl) :
    PE3 X (.Call (.Attribute o "append" apos) [e] [] cpos) (eMethL mAppend mo (aCons m aNil)) :=
  p3_bm PySem.F.slot_list_append PySem.F.type_list_append mt_append mt3_append ho (a3_cons he a3_nil hs) hbase hfew hline hs
end
section
variable {X : Cx} {a : Expr} {ma : EM} {pos p p2 : Pos}
theorem isI_kit {K : PySem.W.Frag} {T U : String} (hT : T ∈ ["NoneType", "bool", "int", "str", "tuple", "list", "dict"]) (hU : U ∈ ["bool", "int", "str", "tuple", "list"]) : PySem.W.kitOne K (.type T) (.type U) = some (isI T U) := by
  simp only [List.mem_cons, List.not_mem_nil, or_false] at hT hU
  rcases hT with rfl | rfl | rfl | rfl | rfl | rfl | rfl <;> rcases hU with rfl | rfl | rfl | rfl | rfl <;> rfl
theorem p3_isinst {U : String} {y : Str} (hg : Gl X "isinstance") (hm : X.mg "isinstance" = none) (hgy : Gl X y) (hmy : X.mg y = none) (hv : bootBuiltins y = some (.type U)) (hU : U ∈ ["bool", "int", "str", "tuple", "list"]) (ha : PE3 X a ma)
    (hn : y ≠ "__name__" := by decide) (hdb : (y == ("__debug__" : Str)) = false := by decide)
    (he : starEach (a :: [.Name y p2]) X.env = (false, eval a X.env) :: starEach [.Name y p2] X.env := by rfl) (he2 : starEach [.Name y p2] X.env = (false, eval (.Name y p2) X.env) :: starEach [] X.env := by rfl) (hpl : (backTo pos (starEach [.Name y p2] X.env)).any (·.1) = false := by rfl) :
    PE3 X (.Call (.Name "isinstance" p) [a, .Name y p2] [] pos) (eUn (fIsI U) ma) := by
  have hy : PE X (.Name y p2) (tC (.ty U)) := pe_bltn hgy hmy hv rfl hn hdb
  refine PE.imp (pe_callB (id := "isinstance") (r := fun xs H Q => ∃ x T, xs = [x, .ty U] ∧ TyOf X.K H x (.type T) ∧ T ∈ ["NoneType", "bool", "int", "str", "tuple", "list", "dict"] ∧ Q (.bl (isI T U)) H) ?_ hg hm (by decide +kernel) (pa_cons ha (pa_cons hy pa_nil he2) he) (by decide) (by decide) he hpl) ?_
  · intro pins s σ H xs us Q I r h
    obtain ⟨x, T, rfl, ty, hT, q⟩ := h
    obtain ⟨u1, u2, rfl, r1, r2⟩ := r.two
    cases r2
    exact isinst_ok I r1 ty (isI_kit hT hU) fun tk => ⟨.bl _, H, I.tok tk, rfl, q⟩
  · rintro σ H Q ⟨ρ, l, S, v, S', sim, ro, hq, p⟩
    obtain ⟨⟨x, S1⟩, h1, hq⟩ := bnd hq
    obtain ⟨T, h2, hq⟩ := bnd hq
    cases hq
    refine ⟨ρ, l, S, x, _, sim, ro, h1, fun ρ1 H1 x' e1 s1 r1 => ⟨x', T, rfl, ?_⟩⟩
    have fin := p ρ1 H1 _ e1 s1 (.bl (isI T U))
    cases r1 with
    | non => cases h2; exact ⟨.non, by decide, fin⟩
    | bl b => cases h2; exact ⟨.bl b, by decide, fin⟩
    | int b => cases h2; exact ⟨.int b, by decide, fin⟩
    | str b => cases h2; exact ⟨.str b, by decide, fin⟩
    | tup hh rr => cases h2; exact ⟨.tup hh, by decide, fin⟩
    | @ref n b hn =>
      unfold tyD at h2
      dsimp only at h2
      split at h2
      · rename_i ys ey
        cases h2
        obtain ⟨a', us, ha', hH, r2⟩ := s1.lst ey
        rw [ha'] at hn; cases hn
        exact ⟨.lst hH, by decide, fin⟩
      · rename_i kvs ey
        cases h2
        obtain ⟨us, hH, r2⟩ := s1.at' n b _ hn ey
        exact ⟨.dK hH, by decide, fin⟩
      · cases h2
    | fn b => cases h2
end
noncomputable def sp3 (K : PySem.W.Frag) (n : Nat) (f : FM) : Sp := fun vs H Q _ => vs.length = n ∧ ∃ ρ ds S v S', Sim K ρ S H ∧ RDs ρ H ds vs ∧ f ds S = some (v, S') ∧ Pv K ρ H v S' Q
section
variable {X : Cx} {a : Expr} {es : List Expr} {mA : AM} {pos p : Pos} {x : Str} {k : Nat} {f : Addr} {fd : FuncData} {ps : List Str} {m : FM}
theorem p3_call {n : Nat} (F : FnOk X.prog X.w X.K X.mg X.base CX0 k f fd ps (sp3 X.K n m)) (hr : Room k X.A) (hg : Gl X x) (hm : X.mg x = some (.ref f)) (hk : PySem.W.keepIn X.K (.ref f) = true) (hb : Binds X.K fd ps [])
    (ha : PA3 X (a :: es) mA) (hl : ∀ l S v S', mA l S = some (v, S') → v.length = n) (hdb : (x == ("__debug__" : Str)) = false := by decide) (he : starEach (a :: es) X.env = (false, eval a X.env) :: starEach es X.env := by rfl) (hpl : (backTo pos (starEach es X.env)).any (·.1) = false := by rfl) :
    PE3 X (.Call (.Name x p) (a :: es) [] pos) (eCall m mA) :=
  PE.imp (pe_call F hr hg hm hk hb .nil pass0 ha hdb he hpl) fun σ H Q hx3_ => by
    obtain ⟨ρ, l, S, v, S', sim, ro, hq, p⟩ := hx3_
    obtain ⟨⟨xs, S1⟩, h1, hq⟩ := bnd hq
    exact ⟨ρ, l, S, xs, S1, sim, ro, h1, fun ρ1 H1 vs e1 s1 r1 => ⟨by rw [List.append_nil, ← r1.length]; exact hl _ _ _ _ h1, ρ1, xs, S1, v, S', s1, by rw [List.append_nil]; exact r1, hq, p.ext e1⟩⟩
theorem len_nil : ∀ l S v S', aNil l S = some (v, S') → v.length = 0 := fun l S v S' h => by cases h; rfl
theorem len_cons {n : Nat} {m : EM} {mA : AM} (h : ∀ l S v S', mA l S = some (v, S') → v.length = n) : ∀ l S v S', aCons m mA l S = some (v, S') → v.length = n + 1 := fun l S v S' q => by
  obtain ⟨⟨x, S1⟩, h1, q⟩ := bnd q
  obtain ⟨⟨y, S2⟩, h2, q⟩ := bnd q
  cases q
  rw [List.length_cons, h _ _ _ _ h2]
end
end L3
namespace L3
open PySem PySem.Spec PyProof.Rows L2
noncomputable def sNext : SM := fun l S => some (.nx, l, S)
noncomputable def sBreak : SM := fun l S => some (.bk, l, S)
noncomputable def sCont : SM := fun l S => some (.ct, l, S)
noncomputable def sSeq (a b : SM) : SM := fun l S => (a l S).bind fun p => match p.1 with
  | .nx => b p.2.1 p.2.2
  | f => some (f, p.2)
noncomputable def sDrop (e : EM) : SM := fun l S => (e l S).bind fun p => some (.nx, l, p.2)
noncomputable def sRet (e : EM) : SM := fun l S => (e l S).bind fun p => some (.rt p.1, l, p.2)
noncomputable def sIf (c : TM) (a b : SM) : SM := fun l S => (c l S).bind fun p => if p.1 = true then a l p.2 else b l p.2
noncomputable def sAsg (e : EM) (g : GM) : SM := fun l S => (e l S).bind fun p => (g p.1 l p.2).bind fun q => some (.nx, q)
noncomputable def gName3 (i : Nat) : GM := fun d l S => some (l.set i (some d), S)
noncomputable def gNil3 : GsM
  | [], l, S => some (l, S)
  | _, _, _ => none
noncomputable def gCons3 (g : GM) (r : GsM) : GsM
  | x :: xs, l, S => (g x l S).bind fun p => r xs p.1 p.2
  | _, _, _ => none
noncomputable def gTup3 (n : Nat) (g : GsM) : GM
  | .tup xs, l, S => if xs.length = n then g xs l S else none
  | _, _, _ => none
noncomputable def setIx : D → D → D → Sto → Option Sto
  | .ref n, .int i, v, S => match S[n]? with
    | some (.lst xs) => (ixN xs.length i).bind fun j => some (S.set n (.lst (xs.set j v)))
    | _ => none
  | _, _, _, _ => none
noncomputable def gSub3 (o i : EM) : GM := fun v l S => (o l S).bind fun p => (i l p.2).bind fun q => (setIx p.1 q.1 v q.2).bind fun S' => some (l, S')
section
variable {X : Cx} {st : Stmt} {rest : List Stmt} {m n : SM} {e c : Expr} {me : EM} {pos : Pos}
theorem ss3_nil : PSs3 X [] sNext := PSs.imp pss_nil fun E σ H hx1_ => by
  obtain ⟨ρ, l, S, f, l', S', sim, ro, hm, p⟩ := hx1_
  cases hm
  exact p ρ H σ (Ext.refl ..) sim ro
theorem ss3_cons (h1 : PS3 X st m) (h2 : PSs3 X rest n) : PSs3 X (st :: rest) (sSeq m n) := PSs.imp (pss_cons h1 h2) fun E σ H hx2_ => by
  obtain ⟨ρ, l, S, f, l', S', sim, ro, hm, p⟩ := hx2_
  obtain ⟨⟨g, l1, S1⟩, q1, hm⟩ := bnd hm
  refine ⟨ρ, l, S, g, l1, S1, sim, ro, q1, fun ρ1 H1 σ1 e1 s1 r1 => ?_⟩
  cases g with
  | nx => exact ⟨ρ1, l1, S1, f, l', S', s1, r1, hm, fun ρ2 H2 σ2 e2 s2 r2 => p ρ2 H2 σ2 (e1.trans e2) s2 r2⟩
  | bk => cases hm; exact p ρ1 H1 σ1 e1 s1 r1
  | ct => cases hm; exact p ρ1 H1 σ1 e1 s1 r1
  | rt d => cases hm; exact p ρ1 H1 σ1 e1 s1 r1
theorem ss3_one (h1 : PS3 X st m) : PSs3 X [st] m := pss_one h1
theorem s3_expr (he : PE3 X e me) (hs : swapsWith e none pos.line X.env = pure false := by rfl) : PS3 X (.Expr e pos) (sDrop me) := PS.imp (ps_expr he hs) fun E σ H hx6_ => by
  obtain ⟨ρ, l, S, f, l', S', sim, ro, hm, p⟩ := hx6_
  obtain ⟨⟨x, S1⟩, q1, hm⟩ := bnd hm
  cases hm
  exact ⟨ρ, l, S, x, _, sim, ro, q1, fun ρ1 H1 x' e1 s1 _ => p ρ1 H1 σ e1 s1 (ro.mono e1)⟩
theorem s3_ret (he : PE3 X e me) : PS3 X (.Return (some e) pos) (sRet me) := PS.imp (ps_ret he) fun E σ H hx7_ => by
  obtain ⟨ρ, l, S, f, l', S', sim, ro, hm, p⟩ := hx7_
  obtain ⟨⟨x, S1⟩, q1, hm⟩ := bnd hm
  cases hm
  exact ⟨ρ, l, S, x, _, sim, ro, q1, fun ρ1 H1 x' e1 s1 r1 => p ρ1 H1 σ e1 s1 (ro.mono e1) x' r1⟩
theorem s3_if {c : Expr} {a b : List Stmt} {mc : TM} (hc : PT3 X c mc) (ha : PSs3 X a m) (hb : PSs3 X b n) : PS3 X (.If c a b pos) (sIf mc m n) := PS.imp (ps_if hc ha hb) fun E σ H hx9_ => by
  obtain ⟨ρ, l, S, f, l', S', sim, ro, hm, p⟩ := hx9_
  obtain ⟨⟨x, S1⟩, q1, hm⟩ := bnd hm
  refine ⟨ρ, l, S, x, S1, sim, ro, q1, fun ρ1 H1 e1 s1 => ?_⟩
  cases x with
  | true => exact iteT ⟨ρ1, l, S1, f, l', S', s1, ro.mono e1, hm, fun ρ2 H2 σ2 e2 s2 r2 => p ρ2 H2 σ2 (e1.trans e2) s2 r2⟩
  | false => exact iteF ⟨ρ1, l, S1, f, l', S', s1, ro.mono e1, hm, fun ρ2 H2 σ2 e2 s2 r2 => p ρ2 H2 σ2 (e1.trans e2) s2 r2⟩
noncomputable def sNever : SM := fun _ _ => none
theorem s3_never : PS3 X st sNever := PS.imp ps_never fun E σ H hx10_ => by obtain ⟨ρ, l, S, f, l', S', sim, ro, hm, p⟩ := hx10_; cases hm
variable {tgt o i : Expr} {g : GM} {gs : GsM} {ts' : List Expr} {mo mi : EM}
theorem g3_name (j : Nat) {x : Str} (hN : X.N.Nodup) (hi : X.N[j]? = some x := by rfl) (hx : Loc X.env.scope x := by first | exact Or.inl rfl | exact Or.inr rfl) (hf : X.fn x = true ∨ X.env.scope.names.lookup x = some .local := by first | exact .inl rfl | exact .inr rfl | assumption) : PG3 X (.Name x pos) (gName3 j) :=
  PG.imp (pg_name hN hi hx hf) fun v σ H Q hx11_ => by
    obtain ⟨ρ, l, S, d, l', S', sim, ro, rd, hm, p⟩ := hx11_
    cases hm
    exact p ρ H _ (Ext.refl ..) sim (ro.set j rd)
theorem gs3_nil : PGs3 X [] gNil3 := PGs.imp pgs_nil fun v σ H Q hx12_ => by
  obtain ⟨ρ, l, S, d, l', S', sim, ro, rd, hm, p⟩ := hx12_
  cases rd with
  | nil => cases hm; exact ⟨rfl, p ρ H _ (Ext.refl ..) sim ro⟩
  | cons _ _ => cases hm
theorem gs3_cons (h1 : PG3 X tgt g) (h2 : PGs3 X ts' gs) (hs : (assignEach (tgt :: ts') X.env).map (·.2) = assign tgt X.env :: (assignEach ts' X.env).map (·.2) := by rfl) : PGs3 X (tgt :: ts') (gCons3 g gs) := PGs.imp (pgs_cons h1 h2 hs) fun v σ H Q hx13_ => by
  obtain ⟨ρ, l, S, d, l', S', sim, ro, rd, hm, p⟩ := hx13_
  cases rd with
  | nil => cases hm
  | @cons x v' xs vs r1 r2 =>
    obtain ⟨⟨l1, S1⟩, q1, hm⟩ := bnd hm
    exact ⟨v', vs, rfl, ρ, l, S, x, l1, S1, sim, ro, r1, q1, fun ρ1 H1 σ1 e1 s1 ro1 => ⟨ρ1, l1, S1, xs, l', S', s1, ro1, r2.mono e1, hm, fun ρ2 H2 σ2 e2 s2 ro2 => p ρ2 H2 σ2 (e1.trans e2) s2 ro2⟩⟩
theorem g3_tup {es : List Expr} {k n : Nat} (hc : X.calm = true) (h : PGs3 X es gs) (hn : (assignEach es X.env).length = n := by rfl) (hst : (assignEach es X.env).findIdx? (·.1) = none := by rfl) : PG3 X (.Tuple es k pos) (gTup3 n gs) :=
  PG.imp (pg_tup hc h hn hst) fun v σ H Q hx14_ => by
    obtain ⟨ρ, l, S, d, l', S', sim, ro, rd, hm, p⟩ := hx14_
    cases rd with
    | @tup xs a vs ha r =>
      have hm : (if xs.length = n then gs xs l S else none) = some (l', S') := hm
      by_cases hl : xs.length = n
      · rw [if_pos hl] at hm
        exact ⟨a, vs, rfl, SqT.of ha, by rw [← r.length]; exact hl, ρ, l, S, xs, l', S', sim, ro, r, hm, p⟩
      · rw [if_neg hl] at hm; cases hm
    | _ => cases hm
theorem set3_ok {K : PySem.W.Frag} {ρ : List Addr} {S S' : Sto} {H : Hp} {x y z : D} {x' y' z' : V} {Q : Hp → Prop} (sim : Sim K ρ S H) (rx : RD ρ H x x') (ry : RD ρ H y y') (rz : RD ρ H z z') (h : setIx x y z S = some S') (q : ∀ H', Ext ρ H ρ H' → Sim K ρ S' H' → Q H') : rSetL x' y' z' H Q := by
  unfold setIx at h
  split at h
  · split at h
    · rename_i hx
      obtain ⟨j, hj, h⟩ := bnd h
      cases h
      cases ry
      obtain ⟨a, us, ha', hH, r3⟩ := sim.lst hx
      cases rx with
      | ref hn =>
        rw [ha'] at hn; cases hn
        exact ⟨a, us, _, j, rfl, rfl, hH, by rw [← r3.length]; exact hj, q _ (ext_upd ha' hH) (sim.set ha' hx hH (r3.set rz j))⟩
    · cases h
  · cases h
theorem g3_sub (ho : PE3 X o mo) (hi : PE3 X i mi)
    (ha : ∀ v, assign (.Subscript o i pos) X.env v = (do
      let ov ← holding [v] (eval o X.env)
      let iv ← holding [v, ov] (eval i X.env)
      standAt pos
      holding [v, ov, iv] (setItem ov iv v)
      release [v, ov, iv] []) := by intro _; rfl) : PG3 X (.Subscript o i pos) (gSub3 mo mi) :=
  PG.imp (pg_sub ho hi set_list ha) fun v σ H Q hx15_ => by
    obtain ⟨ρ, l, S, d, l', S', sim, ro, rd, hm, p⟩ := hx15_
    obtain ⟨⟨x, S1⟩, q1, hm⟩ := bnd hm
    obtain ⟨⟨y, S2⟩, q2, hm⟩ := bnd hm
    obtain ⟨S3, q3, hm⟩ := bnd hm
    cases hm
    exact ⟨ρ, l, S, x, S1, sim, ro, q1, fun ρ1 H1 x' e1 s1 r1 => ⟨ρ1, l, S1, y, S2, s1, ro.mono e1, q2, fun ρ2 H2 y' e2 s2 r2 => set3_ok s2 (r1.mono e2) r2 (rd.mono (e1.trans e2)) q3 fun H3 e3 s3 => p ρ2 H3 σ (e1.trans (e2.trans e3)) s3 (ro.mono (e1.trans (e2.trans e3)))⟩⟩
theorem s3_asg (he : PE3 X e me) (hg : PG3 X tgt g) (hs : swapsWithSole [tgt] e pos.line X.env = pure false := by rfl) (hw : swappedStores [tgt] e X.env = pure none := by rfl)
    (h1 : (assignEach [tgt] X.env).map (·.2) = [assign tgt X.env] := by rfl) : PS3 X (.Assign [tgt] e pos) (sAsg me g) := PS.imp (ps_asg he hg hs hw h1) fun E σ H hx16_ => by
  obtain ⟨ρ, l, S, f, l', S', sim, ro, hm, p⟩ := hx16_
  obtain ⟨⟨x, S1⟩, q1, hm⟩ := bnd hm
  obtain ⟨⟨l2, S2⟩, q2, hm⟩ := bnd hm
  cases hm
  exact ⟨ρ, l, S, x, S1, sim, ro, q1, fun ρ1 H1 x' e1 s1 r1 => ⟨ρ1, l, S1, x, _, _, s1, ro.mono e1, r1, q2, fun ρ2 H2 σ2 e2 s2 r2 => p ρ2 H2 σ2 (e1.trans e2) s2 r2⟩⟩
theorem s3_set (j : Nat) {x : Str} {pos' : Pos} (hN : X.N.Nodup) (he : PE3 X e me) (hi : X.N[j]? = some x := by rfl) (hx : Loc X.env.scope x := by first | exact Or.inl rfl | exact Or.inr rfl) (hs : swapsWith e (some (.Name x pos')) pos.line X.env = pure false := by rfl) (hf : X.fn x = true ∨ X.env.scope.names.lookup x = some .local := by first | exact .inl rfl | exact .inr rfl | assumption) :
    PS3 X (.Assign [.Name x pos'] e pos) (sAsg me (gName3 j)) := PS.imp (ps_set hN hi hx he hs hf) fun E σ H hx17_ => by
  obtain ⟨ρ, l, S, f, l', S', sim, ro, hm, p⟩ := hx17_
  obtain ⟨⟨x, S1⟩, q1, hm⟩ := bnd hm
  cases hm
  exact ⟨ρ, l, S, x, _, sim, ro, q1, fun ρ1 H1 x' e1 s1 r1 => p ρ1 H1 _ e1 s1 ((ro.mono e1).set j r1)⟩
end
noncomputable def forX (g : GM) (b : SM) : List D → SM
  | [], l, S => some (.nx, l, S)
  | x :: xs, l, S => (g x l S).bind fun p => (b p.1 p.2).bind fun q => match q.1 with
    | .nx => forX g b xs q.2.1 q.2.2
    | .ct => forX g b xs q.2.1 q.2.2
    | .bk => some (.nx, q.2)
    | .rt d => some (.rt d, q.2)
noncomputable def rngD (lo : Int) (n : Nat) : List D := (List.range n).map fun (i : Nat) => .int (lo + i)
noncomputable def rng1 (as : AM) : Lo → Sto → Option ((Int × Nat) × Sto) := fun l S => (as l S).bind fun p => match p.1 with
  | [.int j] => if -(2 ^ 62) ≤ j ∧ j < 2 ^ 62 then some ((0, j.toNat), p.2) else none
  | _ => none
noncomputable def sForR (r : Lo → Sto → Option ((Int × Nat) × Sto)) (g : GM) (b : SM) : SM := fun l S => (r l S).bind fun p => forX g b (rngD p.1.1 p.1.2) l p.2
section
variable {K : PySem.W.Frag} {g : GM} {b : SM} {E : Ends}
theorem turn3 {next : SM} {x : D} {v : V} {ρ : List Addr} {l : Lo} {S : Sto} {H : Hp} {σ : St} {f : Fl} {l' : Lo} {S' : Sto} (sim : Sim K ρ S H) (ro : RO ρ H l σ) (rx : RD ρ H x v)
    (hm : ((g x l S).bind fun p => (b p.1 p.2).bind fun q => match q.1 with
      | .nx => next q.2.1 q.2.2
      | .ct => next q.2.1 q.2.2
      | .bk => some (.nx, q.2)
      | .rt d => some (.rt d, q.2)) = some (f, l', S')) (p : ∀ ρ' H' σ', Ext ρ H ρ' H' → Sim K ρ' S' H' → RO ρ' H' l' σ' → ends ρ' H' E σ' f)
    {N : St → Hp → Prop} (hN : ∀ ρ1 H1 σ1 l1 S1, Ext ρ H ρ1 H1 → Sim K ρ1 S1 H1 → RO ρ1 H1 l1 σ1 → next l1 S1 = some (f, l', S') → N σ1 H1) :
    tg K g v σ H fun σ2 H2 => ts K b { E with nx := N, ct := N, bk := E.nx } σ2 H2 := by
  obtain ⟨⟨l1, S1⟩, q1, hm⟩ := bnd hm
  obtain ⟨⟨fl, l2, S2⟩, q2, hm⟩ := bnd hm
  refine ⟨ρ, l, S, x, l1, S1, sim, ro, rx, q1, fun ρ1 H1 σ1 e1 s1 r1 => ⟨ρ1, l1, S1, fl, l2, S2, s1, r1, q2, fun ρ2 H2 σ2 e2 s2 r2 => ?_⟩⟩
  cases fl with
  | nx => exact hN ρ2 H2 σ2 l2 S2 (e1.trans e2) s2 r2 hm
  | ct => exact hN ρ2 H2 σ2 l2 S2 (e1.trans e2) s2 r2 hm
  | bk => cases hm; exact p ρ2 H2 σ2 (e1.trans e2) s2 r2
  | rt d => cases hm; exact p ρ2 H2 σ2 (e1.trans e2) s2 r2
end
section
variable {X : Cx} {tgt iter : Expr} {body : List Stmt} {g : GM} {b : SM} {m : EM} {pos : Pos}
theorem loopX {K : PySem.W.Frag} {J : It} {vs : List V} {xs : List D} {ρ : List Addr} {l : Lo} {S : Sto} {H : Hp} {σ : St} {f : Fl} {l' : Lo} {S' : Sto} {E : Ends} (R : List Addr → Hp → Prop) (hR : ∀ ρ H ρ' H', Ext ρ H ρ' H' → R ρ H → R ρ' H')
    (hgo : ∀ (i : Nat) ρ H v, R ρ H → vs[i]? = some v → J.go i H) (hy : ∀ (i : Nat) ρ H v H', R ρ H → i < vs.length → J.yld i H v H' → H' = H ∧ vs[i]? = some v) (hst : ∀ ρ H, R ρ H → J.stop vs.length H)
    (hv : ∀ ρ H, R ρ H → RDs ρ H xs vs) (r0 : R ρ H)
    (sim : Sim K ρ S H) (ro : RO ρ H l σ) (hm : forX g b xs l S = some (f, l', S')) (p : ∀ ρ' H' σ', Ext ρ H ρ' H' → Sim K ρ' S' H' → RO ρ' H' l' σ' → ends ρ' H' E σ' f) :
    ∃ W : Nat → Nat → St → Hp → Prop, (∃ m, W 0 m σ H) ∧ ∀ i m σ H, W i m σ H →
      (J.stop i H ∧ E.nx σ H) ∨ (J.go i H ∧ ∃ N : St → Hp → Prop, (∀ σ' H', N σ' H' → ∃ m', m' < m ∧ W (i + 1) m' σ' H') ∧ ∀ x H', J.yld i H x H' → tg K g x σ H' fun σ2 H2 => ts K b { E with nx := N, ct := N, bk := E.nx } σ2 H2) := by
  refine ⟨fun i m σ1 H1 => m = xs.length - i ∧ i ≤ xs.length ∧ ∃ ρ1 l1 S1, Ext ρ H ρ1 H1 ∧ Sim K ρ1 S1 H1 ∧ RO ρ1 H1 l1 σ1 ∧ forX g b (xs.drop i) l1 S1 = some (f, l', S'), ⟨xs.length, by simp, Nat.zero_le _, ρ, l, S, Ext.refl .., sim, ro, hm⟩, ?_⟩
  rintro i m σ1 H1 ⟨rfl, hi, ρ1, l1, S1, e1, s1, ro1, hm1⟩
  have R1 := hR _ _ _ _ e1 r0
  have hlen := (hv _ _ r0).length
  by_cases hlt : i < xs.length
  · have hx : xs[i]? = some xs[i] := List.getElem?_eq_getElem hlt
    obtain ⟨v, hvi, rv⟩ := (hv _ _ R1).get hx
    rw [List.drop_eq_getElem_cons hlt] at hm1
    refine .inr ⟨hgo i ρ1 H1 v R1 hvi, _, fun σ' H' h => h, fun y H' hyl => ?_⟩
    obtain ⟨e, hy2⟩ := hy i ρ1 H1 y H' R1 (by omega) hyl
    subst e
    rw [hvi] at hy2; cases hy2
    refine turn3 (next := forX g b (xs.drop (i + 1))) s1 ro1 rv hm1 (fun ρ' H' σ' e' => p ρ' H' σ' (e1.trans e')) fun ρ2 H2 σ2 l2 S2 e2 s2 ro2 hm2 => ?_
    exact ⟨xs.length - (i + 1), by omega, rfl, hlt, ρ2, l2, S2, e1.trans e2, s2, ro2, hm2⟩
  · have hil : i = xs.length := by omega
    subst hil
    rw [List.drop_length] at hm1
    cases hm1
    exact .inl ⟨by rw [hlen]; exact hst _ _ R1, p ρ1 H1 σ1 e1 s1 ro1⟩
theorem rng_rd (ρ : List Addr) (H : Hp) (lo : Int) (n : Nat) : RDs ρ H (rngD lo n) ((List.range n).map fun (i : Nat) => V.int (lo + i)) := by
  unfold rngD
  generalize List.range n = l
  induction l with
  | nil => exact .nil
  | cons a r ih => exact .cons (.int _) ih
theorem itr_get {lo : Int} {n i : Nat} {v : V} (h : i < n) (hv : v = .int (lo + i)) : ((List.range n).map fun (i : Nat) => V.int (lo + i))[i]? = some v := by
  rw [List.getElem?_map, List.getElem?_range h, hv]; rfl
theorem PI.or {wi wj : TI} (h : PI X tgt iter wi) (h' : PI X tgt iter wj) : PI X tgt iter (fun σ H R => wi σ H R ∨ wj σ H R) := by
  intro pins s σ H R I q
  rcases q with q | q
  · exact h pins s σ H R I q
  · exact h' pins s σ H R I q
theorem s3_forR1 {a : Expr} {mA : AM} {p0 pos' : Pos} (hp : PassesOwn (model X.prog X.w) X.A X.env X.xe) (hc : X.calm = true) (hgl : Gl X "range") (hmg : X.mg "range" = none) (ha : PA3 X [a] mA) (hg : PG3 X tgt g) (hb : PSs3 X body b)
    (hs : ∀ x, foldedSetIterable (.Call (.Name "range" p0) [a] [] pos') X.env x = pure x := by intro _; rfl) (hst : starEach [a] X.env = [(false, eval a X.env)] := by rfl) : PS3 X (.For tgt (.Call (.Name "range" p0) [a] [] pos') body [] pos) (sForR (rng1 mA) g b) :=
  PS.imp (ps_for hp hc (pi_range1 hgl hmg ha hst) hg hb hs) fun E σ H hx19_ => by
    obtain ⟨ρ, l, S, f, l', S', sim, ro, hm, p⟩ := hx19_
    obtain ⟨⟨⟨lo, n⟩, S1⟩, q1, hm⟩ := bnd hm
    obtain ⟨⟨xs, S2⟩, q2, q1⟩ := bnd q1
    dsimp only at q1 hm
    split at q1
    · rename_i j
      obtain ⟨hz, e⟩ := ite_some q1
      cases e
      refine ⟨ρ, l, S, [.int j], S1, sim, ro, q2, fun ρ1 H1 vs e1 s1 r1 => ?_⟩
      obtain ⟨v, rfl, rv⟩ := r1.one
      cases rv
      refine ⟨j, rfl, hz.1, hz.2, loopX (vs := (List.range j.toNat).map fun (i : Nat) => V.int (0 + i)) (fun _ _ => True) (fun _ _ _ _ _ h => h) (fun i ρ H v _ hv => ?_) (fun i ρ H v H' _ hl hy => ⟨hy.1, ?_⟩) (fun ρ H _ => ?_) (fun ρ H _ => rng_rd ρ H 0 j.toNat) trivial s1 (ro.mono e1) hm fun ρ' H' σ' e' => p ρ' H' σ' (e1.trans e')⟩
      · have := (List.getElem?_eq_some_iff.mp hv).1
        simp at this
        show i < j.toNat
        omega
      · obtain ⟨_, hy⟩ := hy
        exact itr_get (by simpa using hl) hy
      · show j.toNat ≤ _
        simp
    · cases q1
end
noncomputable def runB (n : Nat) (b : SM) : FM := fun ds S => (b (ds.map some ++ List.replicate (n - ds.length) none) S).bind fun p => match p.1 with
  | .rt d => some (d, p.2.2)
  | .nx => some (.non, p.2.2)
  | _ => none
theorem RDs.locals {ρ : List Addr} {H : Hp} {ds : List D} {vs : List V} (r : RDs ρ H ds vs) (N : List Str) : RO ρ H (ds.map some ++ List.replicate (N.length - ds.length) none) (L2.start N vs) := by
  unfold L2.start
  rw [← r.length]
  refine ⟨by simp [r.length], fun i d h => ?_⟩
  by_cases hl : i < ds.length
  · rw [List.getElem?_append_left (by simpa using hl), List.getElem?_map] at h
    cases e : ds[i]? with
    | none => rw [e] at h; cases h
    | some d' =>
      rw [e] at h
      have h' : some (some d') = some (some d) := h
      cases h'
      obtain ⟨v, h1, h2⟩ := r.get e
      exact ⟨v, by rw [List.getElem?_append_left (by rw [List.length_map, ← r.length]; exact hl), List.getElem?_map, h1]; rfl, h2⟩
  · rw [List.getElem?_append_right (by simpa using hl), List.getElem?_replicate] at h
    split at h
    · cases h
    · cases h
theorem fun3 {P : Program} {w : World} {K : PySem.W.Frag} {mg : Str → Option Value} {base : Heap} {x qual : Str} {st : Stmt} {f : Addr} {fd : FuncData} {N ps : List Str} {k n : Nat} {b : SM} (F : Fun K x qual st f fd) (S : FnScope N ps (defScope st)) (hn : ps.length = n)
    (hbody : ∀ (cdv : Value), PySem.W.codeIn K cdv qual = true → ∀ (A : Around) (outer : List Env) (s : Shared) (H : Hp) (E : XK), Room k (A.deeper (envOfC qual (defScope st) s.heap.objs.size f cdv)) →
      PSs3 (cxOf CX0 P w K mg base N qual (defScope st) f cdv A outer s H E).nox (defBody st) b) : FnOk P w K mg base CX0 (k + 1) f fd ps (sp3 K n (runB N.length b)) := by
  obtain ⟨oc, od, kV, doc, pm, an, cdv, ct, osl, rfl, lk, hcd⟩ := F.ex
  refine fn_of lk hcd S (fun vs H Q E h => by rw [h.1, hn]) fun A outer s H vs Q E hr h => ?_
  obtain ⟨hl, ρ, ds, S0, v, S', sim, rd, hm, p⟩ := h
  refine ⟨_, PSs.nox (hbody cdv hcd A outer s H E hr), ?_⟩
  obtain ⟨⟨fl, l', S1⟩, q, hm⟩ := bnd hm
  refine ⟨ρ, _, S0, fl, l', S1, sim, rd.locals N, q, fun ρ' H' σ' e' s' r' => ?_⟩
  cases fl with
  | nx => cases hm; exact p ρ' H' _ e' s' .non
  | rt d => cases hm; exact fun v' rv => p ρ' H' v' e' s' rv
  | bk => cases hm
  | ct => cases hm
end L3
namespace L3
open PySem PySem.Spec PyProof.Rows L2
noncomputable def clOf (env : Env) : List (Str × NameKind) → List (Str × Addr) → List (Str × Addr)
  | [], cs => cs
  | (n, k) :: r, cs => if k == .free then (match env.cells.lookup n with | some c => clOf env r ((n, c) :: cs) | none => clOf env r cs) else clOf env r cs
theorem closure_eq (env : Env) : ∀ (names : List (Str × NameKind)) (cs : List (Str × Addr)), (∀ x ∈ names, x.2 = .free → ∃ c, env.cells.lookup x.1 = some c) →
    (forIn names cs (fun x r => if (x.2 == NameKind.free) = true then do let c ← cellOf env x.1; pure (ForInStep.yield ((x.1, c) :: r)) else pure (ForInStep.yield r)) : Sem (List (Str × Addr))) = pure (clOf env names cs)
  | [], cs, _ => rfl
  | (n, k) :: r, cs, h => by
    have ih := fun cs => closure_eq env r cs fun x hx => h x (List.mem_cons_of_mem _ hx)
    rw [List.forIn_cons]
    by_cases hk : k = .free
    · subst hk
      obtain ⟨c, hc⟩ := h (n, .free) List.mem_cons_self rfl
      simp only [beq_self_eq_true, if_true, cellOf, hc, clOf, pure_bind, bind_assoc]
      exact ih _
    · have hb : (k == NameKind.free) = false := by simpa using hk
      simp only [hb, Bool.false_eq_true, if_false, clOf, pure_bind]
      exact ih _
theorem closureFor_eq (scope : Scope) (env : Env) (h : ∀ x ∈ scope.names, x.2 = .free → ∃ c, env.cells.lookup x.1 = some c) : closureFor scope env = pure (clOf env scope.names []) := by
  have e := closure_eq env scope.names [] h
  unfold closureFor
  show (forIn scope.names ([] : List (Str × Addr)) (fun (x : Str × NameKind) (r : List (Str × Addr)) => if (x.2 == NameKind.free) = true then do let c ← cellOf env x.1; pure (ForInStep.yield ((x.1, c) :: r)) else pure (ForInStep.yield r)) >>= fun cs => pure cs) = _
  rw [e, pure_bind]
theorem clOf_sub (env : Env) : ∀ (names : List (Str × NameKind)) (cs : List (Str × Addr)), (∀ x c, cs.lookup x = some c → env.cells.lookup x = some c) → ∀ x c, (clOf env names cs).lookup x = some c → env.cells.lookup x = some c
  | [], cs, h, x, c, q => h x c q
  | (n, k) :: r, cs, h, x, c, q => by
    unfold clOf at q
    split at q
    · split at q
      · rename_i c' e
        refine clOf_sub env r _ (fun y d hy => ?_) x c q
        rw [List.lookup_cons] at hy
        split at hy
        · rename_i hb
          have : y = n := by simpa using hb
          cases hy
          rw [this]; exact e
        · exact h y d hy
      · exact clOf_sub env r cs h x c q
    · exact clOf_sub env r cs h x c q
theorem clOf_has (env : Env) : ∀ (names : List (Str × NameKind)) (cs : List (Str × Addr)) (x : Str), ((x, NameKind.free) ∈ names ∨ ∃ c, cs.lookup x = some c) → (∃ c, env.cells.lookup x = some c) → ∃ c, (clOf env names cs).lookup x = some c
  | [], cs, x, h, _ => by
    rcases h with h | h
    · cases h
    · exact h
  | (n, k) :: r, cs, x, h, hx => by
    unfold clOf
    by_cases hk : (k == NameKind.free) = true
    · rw [if_pos hk]
      split
      · rename_i c' e
        refine clOf_has env r _ x ?_ hx
        by_cases hxn : x = n
        · exact .inr ⟨c', by rw [hxn, List.lookup_cons]; simp⟩
        · rcases h with h | ⟨c, h⟩
          · rcases List.mem_cons.mp h with h | h
            · cases h; exact absurd rfl hxn
            · exact .inl h
          · exact .inr ⟨c, by
              rw [List.lookup_cons]
              have : (x == n) = false := by simpa using hxn
              rw [this]; exact h⟩
      · rename_i e
        refine clOf_has env r _ x ?_ hx
        rcases h with h | h
        · rcases List.mem_cons.mp h with h | h
          · cases h
            obtain ⟨c, hc⟩ := hx
            rw [hc] at e; cases e
          · exact .inl h
        · exact .inr h
    · rw [if_neg hk]
      refine clOf_has env r _ x ?_ hx
      rcases h with h | h
      · rcases List.mem_cons.mp h with h | h
        · cases h; exact absurd rfl hk
        · exact .inl h
      · exact .inr h
noncomputable def cxC (X : Cx) (N' : List Str) (scope : Scope) (C : Addr) (s : Shared) (H : Hp) (fp : List Addr) (pins : List (Addr × Obj)) : Cx where
  prog := X.prog
  w := X.w
  K := X.K
  mg := X.mg
  base := X.base
  A := X.A
  N := N'
  s₀ := s
  H₀ := H
  env := compEnvC scope (clOf X.env scope.names []) C X.env
  outer := X.stack
  stack := X.stack
  ex := fp
  fn := fun _ => false
  calm := X.calm
  pn := X.pn ++ pins
  xe := fun _ _ => False
section
variable {prog : Program} {w : World} {A : Around} {R : Result → Shared → Prop} {s : Shared}
theorem compLoopG {elt target iter : Expr} {ifs : List Expr} {scope : Scope} {pos : Pos} {it acc : Value} {env : Env} (I : Nat → Shared → Prop)
    (turn : ∀ n s, I n s → wpAny (model prog w) A (pyNext it) (fun r s₁ => match r with
      | none => R (.ok .next) s₁
      | some v => wpAny (model prog w) A (letOwnedTupleGo target it v) (fun _ s₁' => wpAny (model prog w) A (assign target env v) (fun _ s₂ =>
          wpAny (model prog w) A (forIn ifs true fun c r => if r = true then do let ok ← isTrue c env (eval c env); pure (ForInStep.yield ok) else pure (ForInStep.yield r)) (fun ok s₃ =>
            if ok = true then wpAny (model prog w) A (eval elt env) (fun x s₄ =>
              wpAny (model prog w) A (call (.builtin "list.append") [acc, x]) (fun _ s₅ => ∃ m, m < n ∧ I m s₅) (fun _ _ => False) s₄) (fun _ _ => False) s₃
            else ∃ m, m < n ∧ I m s₃) (fun _ _ => False) s₂) (fun _ _ => False) s₁') (fun _ _ => False) s₁) (fun _ _ => False) s)
    (n : Nat) (h : I n s) :
    codeAny (model prog w) A (.compLoop (.ListComp elt [⟨target, iter, ifs, 0⟩] scope pos) 0 it acc env) R s := by
  refine codeAny_loop rfl I (fun n s hI => ?_) n h
  show wpAny _ A ((compTurn (.ListComp elt [⟨target, iter, ifs, 0⟩] scope pos) 0 it acc env).onRaise (fun x => do noteFrame x env; theTreesLotGoes x)) _ _ s
  refine wpAny_noted ?_
  rw [compTurn_list]
  refine wpAny_bind (wpAny_standAt (wpAny_bind (wpAny_mono (turn n s hI) (fun r s₁ h₁ => ?_) fun _ _ h' => h'.elim)))
  cases r with
  | none => exact wpAny_pure h₁
  | some v =>
    refine wpAny_bind (wpAny_mono h₁ (fun _ s₁' h₁ => ?_) fun _ _ h' => h'.elim)
    refine wpAny_bind (wpAny_mono h₁ (fun _ s₂ h₂ => wpAny_bind (wpAny_mono h₂ (fun ok s₃ h₃ => ?_) fun _ _ h' => h'.elim)) fun _ _ h' => h'.elim)
    cases ok with
    | false => exact wpAny_pure ⟨rfl, h₃⟩
    | true =>
      exact wpAny_bind (wpAny_bind (wpAny_mono h₃ (fun x s₄ h₄ => wpAny_bind (wpAny_mono h₄ (fun _ s₅ h₅ => wpAny_pure (wpAny_pure ⟨rfl, h₅⟩)) fun _ _ h' => h'.elim)) fun _ _ h' => h'.elim))
end
noncomputable def PTs (X : Cx) (ifs : List Expr) (t : TT) : Prop := ∀ (pins : List (Addr × Obj)) (s : Shared) (σ : St) (H : Hp) (Q : Bool → Hp → Prop), Inv X pins σ H s → t σ H Q →
  wpAny (model X.prog X.w) X.A (forIn ifs true fun c r => if r = true then do let ok ← isTrue c X.env (eval c X.env); pure (ForInStep.yield ok) else pure (ForInStep.yield r)) (TP X pins σ Q) X.xe s
theorem pts_nil {X : Cx} : PTs X [] (fun _ H Q => Q true H) := fun _ _ _ H _ I h => wpAny_tests_nil ⟨H, I, h⟩
noncomputable def tComp (K : PySem.W.Frag) (wi : TI) (src : St → St) (g : TG) (tts : TT) (t : TE) : TE := fun σ H Q => wi σ H fun J H1 => ∀ D, H1 D = none → K.lookup D = none → ∃ W : Nat → Nat → St → Hp → Prop,
  (∃ m, W 0 m (src σ) (upd H1 D (.lst []))) ∧ ∀ i m σ' H', W i m σ' H' →
    (J.stop i H' ∧ Q (.ref D) H') ∨ (J.go i H' ∧ ∃ N : St → Hp → Prop, (∀ σ' H', N σ' H' → ∃ m', m' < m ∧ W (i + 1) m' σ' H') ∧
      ∀ x H'', J.yld i H' x H'' → g x σ' H'' fun σ2 H2 => tts σ2 H2 fun b H3 => if b = true then t σ2 H3 (fun v H4 => ∃ ys, H4 D = some (.lst ys) ∧ ys.length < sizeLine ∧ N σ2 (upd H4 D (.lst (ys ++ [v])))) else N σ2 H3)
theorem relabel_lookup {scope : Scope} {env : Env} : ∀ {names : List (Str × NameKind)} {x : Str}, names.lookup x = some .free →
    ((names.map fun (n, k) => if (k == NameKind.free && env.scope.kind == .function && env.kindOf n == some .cell) then (n, NameKind.cell) else (n, k)).lookup x = some .cell ∨
     (names.map fun (n, k) => if (k == NameKind.free && env.scope.kind == .function && env.kindOf n == some .cell) then (n, NameKind.cell) else (n, k)).lookup x = some .free)
  | [], x, h => by simp at h
  | (n, k) :: r, x, h => by
    have ih := @relabel_lookup scope env r x
    show List.lookup x ((if (k == NameKind.free && env.scope.kind == .function && env.kindOf n == some .cell) = true then (n, NameKind.cell) else (n, k)) :: _) = _ ∨ List.lookup x ((if (k == NameKind.free && env.scope.kind == .function && env.kindOf n == some .cell) = true then (n, NameKind.cell) else (n, k)) :: _) = _
    cases hx : x == n with
    | true =>
      simp only [List.lookup_cons, hx] at h
      cases h
      by_cases hc : (NameKind.free == NameKind.free && env.scope.kind == .function && env.kindOf n == some .cell) = true
      · rw [if_pos hc]; simp [List.lookup_cons, hx]
      · rw [if_neg hc]; simp [List.lookup_cons, hx]
    | false =>
      simp only [List.lookup_cons, hx] at h
      by_cases hc : (k == NameKind.free && env.scope.kind == .function && env.kindOf n == some .cell) = true
      · rw [if_pos hc]; simp only [List.lookup_cons, hx]; exact ih h
      · rw [if_neg hc]; simp only [List.lookup_cons, hx]; exact ih h
structure CompSc (X : Cx) (N' : List Str) (scope : Scope) (src : St → St) : Prop where
  kind : scope.kind = .function
  nocell : ∀ y ∈ scope.names, y.2 ≠ .cell
  names : ∀ y ∈ scope.names, y.2 = .local → scope.names.lookup y.1 = some .local
  free : ∀ y ∈ scope.names, y.2 = .free → X.env.kindOf y.1 = some .cell ∨ X.env.kindOf y.1 = some .free
  rel : ∀ y, (relabel scope X.env).names.lookup y = some .cell ∨ (relabel scope X.env).names.lookup y = some .free → (y, NameKind.free) ∈ scope.names
  len : ∀ σ, (src σ).length = N'.length
  src : ∀ σ (i : Nat) v x, (src σ)[i]? = some (some v) → N'[i]? = some x → ∃ j : Nat, X.N[j]? = some x ∧ σ[j]? = some (some v) ∧ scope.names.lookup x = some .free
theorem comp_core {X : Cx} {N' : List Str} {elt iter tgt : Expr} {ifs : List Expr} {scope : Scope} {pos pos' : Pos} {use : Option (Value → Sem Unit)} {R : Value → Shared → Prop} {pins : List (Addr × Obj)} {s : Shared} {σ : St} {H : Hp} {Q : VK} {wi : TI} {src : St → St} {g : TG} {tts : TT} {t : TE} (hcalm : X.calm = true) (sc : CompSc X N' scope src)
    (hi : PI X tgt iter wi) (hg : ∀ C s H fp pins, PG (cxC X N' scope C s H fp pins) tgt g) (ht : ∀ C s H fp pins, PTs (cxC X N' scope C s H fp pins) ifs tts) (he : ∀ C s H fp pins, PE (cxC X N' scope C s H fp pins) elt t)
    (hs : ∀ x, foldedSetIterable iter X.env x = pure x) (I : Inv X pins σ H s) (h : tComp X.K wi src g tts t σ H Q)
    (fin : ∀ D H5 s6 C mC, Inv X pins σ H5 s6 → FpOk X pins H5 C → s6.heap.Ns C mC → Q (.ref D) H5 → compPost (model X.prog X.w) X.A X.xe use R (.ref D) C (.ok .next) s6) :
    wpAny (model X.prog X.w) X.A (comprehension (.ListComp elt [⟨tgt, iter, ifs, 0⟩] scope pos) scope X.env pos' (newList []) false (eval iter X.env) use) R X.xe s := by
  have hasC : ∀ x ∈ scope.names, x.2 = .free → ∃ c, X.env.cells.lookup x.1 = some c := fun x hx hf => I.ok.has x.1 (sc.free x hx hf)
  refine wpAny_comprehension_free (use := use) (env := X.env) rfl hs (closureFor_eq scope X.env hasC) sc.kind sc.names ?_
  show wpAny (model X.prog X.w) X.A (eval iter X.env) _ _ s
  refine wpAny_mono (hi pins s σ H _ I h) (fun v s1 h1 => wpAny_mono h1 (fun itv s2 h2 => ?_) fun _ _ z => z) fun _ _ z => z
  obtain ⟨it, fp, tn, J, H2, rfl, I2, T, st2, f2, q⟩ := h2
  refine wpAny_newObj_type ?_ (by show 0 ≤ sizeLine; exact Nat.zero_le _)
  have hD : H2 s2.heap.objs.size = none := I2.hok.fresh (Nat.le_refl _)
  have I3 : Inv X pins σ (upd H2 s2.heap.objs.size (.lst [])) { s2 with heap := s2.heap.push { cls := .type "list", data := .seq ([] : List Value).toArray } } := I2.lnew (t' := s2.toks) .nil (Nat.zero_le _)
  obtain ⟨W, ⟨m0, w0⟩, turn⟩ := q s2.heap.objs.size hD (by
    cases e : X.K.lookup s2.heap.objs.size with
    | none => rfl
    | some o => exact absurd (Heap.lt_size (I2.kIn _ o e)) (Nat.lt_irrefl _))
  refine wpAny_newFunctionEnv sc.nocell (by intro y hy; simp at hy) (fun h' hns hsb => ?_) sc.kind
  have fpIn : ∀ b ∈ fp, ∃ o, s2.heap.get? b = some o ∧ ∀ v, o.data ≠ .cell v := T.obj 0 s2.heap st2
  have fpD : ∀ b ∈ fp, b ≠ s2.heap.objs.size := fun b hb => let ⟨o, e, _⟩ := fpIn b hb; Nat.ne_of_lt (Heap.lt_size e)
  have f3 : ∀ b ∈ fp, FpOk X pins (upd H2 s2.heap.objs.size (.lst [])) b := fun b hb => ⟨by rw [upd_ne (fpD b hb)]; exact (f2 b hb).1, (f2 b hb).2⟩
  have st3 : tn 0 (s2.heap.push { cls := .type "list", data := .seq ([] : List Value).toArray }) := T.keep _ _ _ st2 fun b hb o e => Heap.get?_push_of_some _ e
  clear q hD h st2 f2 fpD
  generalize upd H2 s2.heap.objs.size (.lst []) = H3 at *
  generalize hDe : s2.heap.objs.size = D at *
  have fpIn3 : ∀ b ∈ fp, ∃ o, (s2.heap.push { cls := .type "list", data := .seq ([] : List Value).toArray }).get? b = some o ∧ ∀ v, o.data ≠ .cell v := T.obj 0 _ st3
  clear fpIn
  generalize s2.heap.push { cls := .type "list", data := .seq ([] : List Value).toArray } = h3 at *
  have old : ∀ b o, h3.get? b = some o → h'.get? b = some o := fun b o e => hsb.extBut b o (Nat.ne_of_lt (Heap.lt_size e)) (Heap.get?_push_of_some _ e)
  have stkNo : ∀ b, b ≠ X.env.locals → b ∉ X.fs → b ∉ frs X.stack := fun b h1 h2 hb => by
    rcases List.mem_cons.mp (I3.stkSub b hb) with z | z
    · exact h1 z
    · exact h2 z
  have sub := clOf_sub X.env scope.names [] (fun x c z => by simp at z)
  have cNe : ∀ b o, h3.get? b = some o → b ≠ h3.objs.size := fun b o e => Nat.ne_of_lt (Heap.lt_size e)
  have I4 : Inv (cxC X N' scope h3.objs.size { s2 with heap := h3 } H3 fp pins) [] (src σ) H3 { s2 with heap := h', toks := s2.toks + ([] : List (Str × Value)).length } := by
    refine ⟨⟨I3.ok.mod, sc.kind, I3.ok.glob, I3.ok.blt, Nat.le_refl _, fun x y c h1 h2 => I3.ok.inj x y c (sub x c h1) (sub y c h2), fun x hx => ?_, fun x c z => absurd (show false = true from z) Bool.false_ne_true, I3.ok.hd, I3.ok.frames, .inl rfl, fun b hb => ⟨?_, fun x c z => (f3 b hb).2.2.2.2.1 x c (sub x c z)⟩, fun b o e => I3.bs b o e, Nat.le_trans I3.ok.bsz I3.sz, fun b o e hb => ?_, fun b hb => stkNo b (f3 b hb).2.1 (f3 b hb).2.2.1, I3.stack, I3.stkFree⟩,
      rfl, I3.bare, Un.kept old, ⟨_, hns, fun i x v h1 h2 h3' => ?_⟩, fun x c z => ?_, I3.hok.fresh (Nat.le_refl _), fun x c z => I3.freeC x c (sub x c z), fun p hp => ?_, I3.hok.kept old, sc.len σ⟩
    · have hm := sc.rel x hx
      exact clOf_has X.env scope.names [] x (.inl hm) (hasC _ hm rfl)
    · obtain ⟨o, e, _⟩ := fpIn3 b hb
      exact cNe b o e
    · rcases (f3 b hb).2.2.2.1 with z | z
      · exact I3.ok.noex b o e z
      · have := Heap.lt_size (I3.ok.bs b o e).1
        exact absurd (Nat.lt_of_lt_of_le this z) (Nat.lt_irrefl _)
    · obtain ⟨j, e1, e2, e3⟩ := sc.src σ i v x h2 h1
      obtain ⟨m, hn, hl⟩ := I3.loc
      have hmem := PySem.mem_of_lookup e3
      have hk := sc.free (x, .free) hmem rfl
      have vis : Vis X.env.scope x := by
        rcases hk with k | k
        · exact .inr (.inl k)
        · exact .inr (.inr k)
      obtain ⟨u, r, lk⟩ := hl j x v e1 e2 vis
      refine ⟨u, r, .inr ⟨?_, ?_⟩⟩
      · exact relabel_lookup (scope := scope) e3
      · rcases lk with ⟨k, _⟩ | ⟨_, c, hc, hcell⟩
        · rcases hk with k' | k' <;> (rw [k] at k'; cases k')
        · obtain ⟨c', hc'⟩ := clOf_has X.env scope.names [] x (.inl hmem) ⟨c, hc⟩
          have := sub x c' hc'
          rw [hc] at this; cases this
          obtain ⟨o, ho, hd⟩ := hcell
          exact ⟨c, hc', o, old _ _ ho, hd⟩
    · obtain ⟨v, o, ho, hd⟩ := I3.cell x c (sub x c z)
      exact ⟨v, o, old _ _ ho, hd⟩
    · have hp' : p ∈ X.pn ++ pins := by simpa [cxC] using hp
      obtain ⟨e, n, ne, nf, d⟩ := I3.pin p hp'
      exact ⟨old _ _ e, n, cNe _ _ e, stkNo _ ne nf, d⟩
  have st4 : tn 0 h' := T.keep _ _ _ st3 fun b hb o e => old b o e
  have fr4 : ∀ b ∈ fp, H3 b = none := fun b hb => (f3 b hb).1
  have stat : ∀ {H' : Hp}, (∀ b ∈ fp, H' b = none) → ∀ b ∈ fp, FpOk (cxC X N' scope h3.objs.size { s2 with heap := h3 } H3 fp pins) [] H' b := fun hn b hb => by
    obtain ⟨g0, g1, g2, g3, g4, g5⟩ := f3 b hb
    obtain ⟨o, e, _⟩ := fpIn3 b hb
    exact ⟨hn b hb, cNe b o e, stkNo b g1 g2, .inl hb, fun x c z => g4 x c (sub x c z), fun p hp => g5 p (by simpa [cxC] using hp)⟩
  have loop : codeAny (model X.prog X.w) X.A (.compLoop (.ListComp elt [⟨tgt, iter, ifs, 0⟩] scope pos) 0 (.ref it) (.ref D) (compEnvC scope (clOf X.env scope.names []) h3.objs.size X.env))
      (compPost (model X.prog X.w) X.A X.xe use R (.ref D) h3.objs.size) { s2 with heap := h', toks := s2.toks + ([] : List (Str × Value)).length } := by
    refine compLoopG (fun n s' => ∃ i σ' H', Inv (cxC X N' scope h3.objs.size { s2 with heap := h3 } H3 fp pins) [] σ' H' s' ∧ tn i s'.heap ∧ (∀ b ∈ fp, H' b = none) ∧ W i n σ' H') ?_ m0 ⟨0, src σ, H3, I4, st4, fr4, w0⟩
    rintro n s5 ⟨i, σ5, H5, I5, st5, fr5, w5⟩
    rcases turn i n σ5 H5 w5 with ⟨stop, qn⟩ | ⟨go, N, hN, step⟩
    · refine wpAny_mono (T.done (cxC X N' scope h3.objs.size { s2 with heap := h3 } H3 fp pins) rfl rfl rfl hcalm i [] s5 σ5 H5 (fun _ _ => False) I5 (stat fr5) st5 stop) (fun r s6 hr => ?_) fun _ _ z => z
      obtain ⟨hr, I6⟩ := hr
      subst hr
      obtain ⟨mC, hnC, _⟩ := I6.loc
      have IX : Inv X pins σ H5 s6 := I3.call' (s' := s6) (ch := fp) I6.os I6.base I6.hok I6.bare fun b hb => ⟨(f3 b hb).2.2.2.1, (f3 b hb).2.1, (f3 b hb).2.2.2.2.1, (f3 b hb).2.2.2.2.2⟩
      exact fin D H5 s6 h3.objs.size mC IX (I3.fpOk (Nat.le_refl _) I6.free) hnC qn
    · refine wpAny_mono (T.item (cxC X N' scope h3.objs.size { s2 with heap := h3 } H3 fp pins) rfl rfl rfl hcalm i [] s5 σ5 H5 (fun _ _ => False) I5 (stat fr5) st5 go) (fun r s6 hr => ?_) fun _ _ z => z
      obtain ⟨u, hr, h6⟩ := hr
      subst hr
      refine wpAny_mono h6 (fun _ s7 h7 => ?_) fun _ _ z => z
      obtain ⟨x, H7, I7, r7, y7, st7, fr7⟩ := h7
      have I7' := I7.pinned (stat fr7) (T.obj _ _ st7)
      refine wpAny_mono (hg _ _ _ _ _ _ s7 σ5 H7 x u _ I7' r7 (step x H7 y7)) (fun _ s8 h8 => ?_) fun _ _ z => z
      obtain ⟨σ8, H8, I8, q8⟩ := h8
      have again : ∀ {H9 : Hp} {s9 : Shared}, Inv (cxC X N' scope h3.objs.size { s2 with heap := h3 } H3 fp pins) ([] ++ pinsAt fp s7.heap) σ8 H9 s9 → N σ8 H9 → ∃ m, m < n ∧ ∃ i σ' H', Inv (cxC X N' scope h3.objs.size { s2 with heap := h3 } H3 fp pins) [] σ' H' s9 ∧ tn i s9.heap ∧ (∀ b ∈ fp, H' b = none) ∧ W i m σ' H' := fun {H9 s9} I9 n9 => by
        obtain ⟨m', hm, w9⟩ := hN σ8 H9 n9
        refine ⟨m', hm, i + 1, σ8, H9, I9.unpinned, T.keep _ _ _ st7 fun b hb o e => (I9.pin (b, o) (List.mem_append_right _ (List.mem_append_right _ (mem_pinsAt hb e)))).1, fun b hb => ?_, w9⟩
        obtain ⟨o, e, d⟩ := T.obj _ _ st7 b hb
        exact (I9.pin (b, o) (List.mem_append_right _ (List.mem_append_right _ (mem_pinsAt hb e)))).2.1
      refine wpAny_mono (ht _ _ _ _ _ _ s8 σ8 H8 _ I8 q8) (fun ok s9 h9 => ?_) fun _ _ z => z
      obtain ⟨H9, I9, q9⟩ := h9
      cases ok with
      | false => exact again I9 q9
      | true =>
        refine wpAny_mono (he _ _ _ _ _ _ s9 σ8 H9 _ I9 q9) (fun y s10 h10 => ?_) fun _ _ z => z
        obtain ⟨vy, H10, I10, r10, ys, hys, hz, nx⟩ := h10
        refine wpAny_mono (mt_append (X := cxC X N' scope h3.objs.size { s2 with heap := h3 } H3 fp pins) _ s10 σ8 H10 (.ref D) [vy] (.ref D) [y] (fun _ H' => N σ8 H') I10 rfl (.cons r10 .nil) ⟨D, ys, vy, rfl, rfl, hys, hz, nx⟩) (fun _ s11 h11 => ?_) fun _ _ z => z
        obtain ⟨_, H11, I11, _, n11⟩ := h11
        exact again I11 n11
  exact codeAny_compStart_list loop (T.self _ 0 _ _ _ st4 loop)
theorem pe_comp {X : Cx} {N' : List Str} {elt iter tgt : Expr} {ifs : List Expr} {scope : Scope} {pos : Pos} {wi : TI} {src : St → St} {g : TG} {tts : TT} {t : TE} (hcalm : X.calm = true) (sc : CompSc X N' scope src)
    (hi : PI X tgt iter wi) (hg : ∀ C s H fp pins, PG (cxC X N' scope C s H fp pins) tgt g) (ht : ∀ C s H fp pins, PTs (cxC X N' scope C s H fp pins) ifs tts) (he : ∀ C s H fp pins, PE (cxC X N' scope C s H fp pins) elt t)
    (hs : ∀ x, foldedSetIterable iter X.env x = pure x := by intro _; rfl) : PE X (.ListComp elt [⟨tgt, iter, ifs, 0⟩] scope pos) (tComp X.K wi src g tts t) := by
  intro pins s σ H Q I h
  rw [eval_ListComp]
  refine comp_core (use := none) hcalm sc hi hg ht he hs I h fun D H5 s6 C mC IX fp hn q => ⟨mC, hn, fun h'' sb => ⟨.ref D, H5, ?_, rfl, q⟩⟩
  exact IX.turned (t' := s6.toks) (fun b o hb e => sb.extBut b o hb e) fp.1 fp.2.1 fp.2.2.2.1 fp.2.2.2.2.1 fp.2.2.2.2.2
theorem ps_comp {X : Cx} {N' : List Str} {elt iter tgt : Expr} {ifs : List Expr} {scope : Scope} {pos spos py : Pos} {wi : TI} {src : St → St} {g : TG} {tts : TT} {t : TE} {i : Nat} {y : Str} (hN : X.N.Nodup) (hi' : X.N[i]? = some y) (hx : Loc X.env.scope y)
    (hsw : swapsWith (.ListComp elt [⟨tgt, iter, ifs, 0⟩] scope pos) (some (.Name y py)) spos.line X.env = pure true) (hf : X.fn y = true ∨ X.env.scope.names.lookup y = some .local)
    (hcalm : X.calm = true) (sc : CompSc X N' scope src)
    (hi : PI X tgt iter wi) (hg : ∀ C s H fp pins, PG (cxC X N' scope C s H fp pins) tgt g) (ht : ∀ C s H fp pins, PTs (cxC X N' scope C s H fp pins) ifs tts) (he : ∀ C s H fp pins, PE (cxC X N' scope C s H fp pins) elt t)
    (hs : ∀ x, foldedSetIterable iter X.env x = pure x := by intro _; rfl) : PS X (.Assign [.Name y py] (.ListComp elt [⟨tgt, iter, ifs, 0⟩] scope pos) spos) (tAsg (tComp X.K wi src g tts t) (gName i)) := by
  intro pins s σ H D I h
  rw [exec_Assign_Name_used _ _ _ _ hsw]
  refine wpAny_bind (wpAny_standAt (wpAny_bind ?_))
  show wpAny _ X.A (do let _ ← comprehension (.ListComp elt [⟨tgt, iter, ifs, 0⟩] scope pos) scope X.env _ (newList []) false (eval iter X.env) (some (assign (.Name y py) X.env))) _ _ s
  refine wpAny_bind (wpAny_mono (comp_core (use := some (assign (.Name y py) X.env)) (R := fun _ s' => SP X pins D .next s') hcalm sc hi hg ht he hs I h fun D' H5 s6 C mC IX fp hn q => ?_) (fun _ s' hq => wpAny_pure (wpAny_pure hq)) fun _ _ e => e)
  show wpAny _ X.A (assign (.Name y py) X.env (.ref D')) _ _ s6
  refine wpAny_assign_Name (store_ok2 (v := .ref D') IX hN hi' hx rfl (fun s' I' ha => ?_) hf)
  obtain ⟨a, sb, ha⟩ := ha
  have hCa : C ≠ a := by
    rcases ha with ha | ha
    · rw [ha]; exact fp.2.1
    · exact fun z => fp.2.2.2.2.1 y a ha z.symm
  refine ⟨mC, hn.sameBut sb hCa, fun h'' sb'' => ⟨_, H5, ?_, q⟩⟩
  exact I'.turned (t' := s'.toks) (fun b o hb e => sb''.extBut b o hb e) fp.1 fp.2.1 fp.2.2.2.1 fp.2.2.2.2.1 fp.2.2.2.2.2
end L3
namespace L3
open PySem PySem.Spec PyProof.Rows L2
section
variable {K : PySem.W.Frag} {ρ ρ' : List Addr} {H H' : Hp} {S : Sto}
theorem Sim.notin {a : Addr} (s : Sim K ρ S H) (h1 : H a = none) (h2 : K.lookup a = none) : ∀ n : Nat, ρ[n]? ≠ some a := fun n hn => by
  have hl : n < S.length := by rw [← s.len]; exact (List.getElem?_eq_some_iff.mp hn).1
  have q := s.at' n a _ hn (List.getElem?_eq_getElem hl)
  cases e : S[n] with
  | lst xs => rw [e] at q; obtain ⟨vs, z, _⟩ := q; rw [h1] at z; cases z
  | flst xs =>
    rw [e] at q
    obtain ⟨vs, z, _⟩ := q
    rcases z with ⟨o, z⟩ | ⟨o, _, _, z, _⟩
    · rw [h1] at z; cases z
    · rw [h2] at z; cases z
  | iset g m => rw [e] at q; have q : H a = _ := q; rw [h1] at q; cases q
  | dct kvs => rw [e] at q; obtain ⟨vs, z, _⟩ := q; rw [h1] at z; cases z
  | tdct kvs => rw [e] at q; obtain ⟨vs, z, _⟩ := q; rw [h1] at z; cases z
  | fdct kvs => rw [e] at q; obtain ⟨o, vs, z, _⟩ := q; rw [h1] at z; cases z
  | ftdct kvs => rw [e] at q; obtain ⟨o, vs, z, _⟩ := q; rw [h1] at z; cases z
  | tset ks => rw [e] at q; obtain ⟨xs, _, z, _⟩ := q; rw [h1] at z; cases z
  | fnc x => rw [e] at q; obtain ⟨_, o, z⟩ := q; rw [h2] at z; cases z
  | exc c => rw [e] at q; obtain ⟨C, _, z⟩ := q; rw [h1] at z; cases z
theorem Sim.adopt {a : Addr} {xs : List D} {vs : List V} (s : Sim K ρ S H) (ha : H a = some (.lst vs)) (hn : ∀ n : Nat, ρ[n]? ≠ some a) (r : RDs ρ H xs vs) : Sim K (ρ ++ [a]) (S ++ [.lst xs]) H := by
  refine ⟨by simp [s.len], fun i j b x1 x2 h1 h2 h3 h4 m1 m2 => ?_, fun n b o h1 h2 => ?_⟩
  · rcases get_push h1 with g1 | ⟨e1, f1⟩ <;> rcases get_push h2 with g2 | ⟨e2, f2⟩
    · rcases get_push h3 with h3 | ⟨e3, _⟩ <;> rcases get_push h4 with h4 | ⟨e4, _⟩
      · exact s.nd i j b _ _ g1 g2 h3 h4 m1 m2
      · have := (List.getElem?_eq_some_iff.mp g2).1; have := s.len; omega
      · have := (List.getElem?_eq_some_iff.mp g1).1; have := s.len; omega
      · omega
    · subst f2; exact absurd g1 (hn i)
    · subst f1; exact absurd g2 (hn j)
    · omega
  · rcases get_push h1 with h1 | ⟨e1, f1⟩
    · rcases get_push h2 with h2 | ⟨e2, f2⟩
      · exact (s.at' n b o h1 h2).more ext0_push
      · have := (List.getElem?_eq_some_iff.mp h1).1; have := s.len; omega
    · subst f1
      rcases get_push h2 with h2 | ⟨e2, f2⟩
      · have := (List.getElem?_eq_some_iff.mp h2).1; have := s.len; omega
      · subst f2
        exact ⟨vs, ha, r.mono0 ext0_push⟩
theorem Sim.beside {a : Addr} {ys : List V} {u : HO} (s : Sim K ρ S H) (ha : H a = some (.lst ys)) (hn : ∀ n : Nat, ρ[n]? ≠ some a) : Sim K ρ S (upd H a u) :=
  ⟨s.len, s.nd, fun n b o h1 h2 => (s.at' n b o h1 h2).written ha fun _ z => hn n (by rw [h1, z])⟩
theorem Ext.beside {a : Addr} {ys : List V} {u : HO} {ρ0 : List Addr} {H0 : Hp} (e : Ext ρ0 H0 ρ H) (h0 : H0 a = none) (ha : H a = some (.lst ys)) : Ext ρ0 H0 ρ (upd H a u) :=
  ⟨⟨e.pre, fun b vs h => by rw [upd_ne (ne_of (e.tup b vs h) ha (by intro z; cases z))]; exact e.tup b vs h, fun b o vs h => by rw [upd_ne (ne_of (e.frz b o vs h) ha (by intro z; cases z))]; exact e.frz b o vs h⟩, fun b vs h n => ⟨by rw [upd_ne (ne_of_none h h0)]; exact (e.out b vs h n).1, (e.out b vs h n).2⟩⟩
theorem Ext.adopt {a : Addr} {ρ0 : List Addr} {H0 : Hp} (e : Ext ρ0 H0 ρ H) (h0 : H0 a = none) : Ext ρ0 H0 (ρ ++ [a]) H :=
  ⟨⟨fun n b h => (ext0_push (H := H)).pre n b (e.pre n b h), e.tup, e.frz⟩, fun b vs h n => ⟨(e.out b vs h n).1, fun i hi => by
    rcases get_push hi with hi | ⟨_, z⟩
    · exact (e.out b vs h n).2 i hi
    · rw [z, h0] at h; cases h⟩⟩
end
noncomputable abbrev ItM := Nat → Sto → Option (Option D)
noncomputable abbrev IM := Lo → Sto → Option (ItM × Nat × Sto)
noncomputable def ItOk (K : PySem.W.Frag) (ρ : List Addr) (H : Hp) (it : ItM) (J : It) : Prop := ∀ (i : Nat) ρ' S' H', Ext ρ H ρ' H' → Sim K ρ' S' H' →
  (it i S' = some none → J.stop i H') ∧ ∀ x, it i S' = some (some x) → J.go i H' ∧ ∀ y H'', J.yld i H' y H'' → H'' = H' ∧ RD ρ' H' x y
inductive ti (K : PySem.W.Frag) (im : IM) (σ : St) (H : Hp) (R : It → Hp → Prop) : Prop
  | mk (ρ : _) (l : _) (S : _) (it : _) (k : _) (S' : _) (_ : Sim K ρ S H) (_ : RO ρ H l σ) (_ : im l S = some (it, k, S')) (_ : ∀ ρ' H' J, Ext ρ H ρ' H' → Sim K ρ' S' H' → ItOk K ρ' H' it J → R J H')
noncomputable def PI3 (X : Cx) (tgt iter : Expr) (im : IM) : Prop := PI X tgt iter (ti X.K im)
theorem PI.imp {X : Cx} {tgt iter : Expr} {t u : TI} (h : PI X tgt iter t) (i : ∀ σ H R, u σ H R → t σ H R) : PI X tgt iter u := fun pins s σ H Q I q => h pins s σ H Q I (i _ _ _ q)
noncomputable def itX (xs : List D) : ItM := fun i _ => some xs[i]?
noncomputable def itL (n : Nat) : ItM := fun i S => (lstOf S n).bind fun xs => some xs[i]?
noncomputable def iVal (e : EM) : IM := fun l S => (e l S).bind fun p => match p.1 with
  | .tup xs => some (itX xs, xs.length + 1, p.2)
  | .ref n => (lstOf p.2 n).bind fun xs => some (itL n, xs.length + 1, p.2)
  | _ => none
noncomputable def iRng (r : Lo → Sto → Option ((Int × Nat) × Sto)) : IM := fun l S => (r l S).bind fun p => some (itX (rngD p.1.1 p.1.2), p.1.2 + 1, p.2)
section
variable {K : PySem.W.Frag}
theorem itok_tup {ρ : List Addr} {H : Hp} {a : Addr} {xs : List D} {vs : List V} (ha : H a = some (.tup vs)) (r : RDs ρ H xs vs) : ItOk K ρ H (itX xs) (Itt K a) := by
  intro i ρ' S' H' e s
  have ha' := SqT.of (K := K) (e.tup _ _ ha)
  have r' := r.mono e
  refine ⟨fun h => ?_, fun x h => ?_⟩
  · have h : xs[i]? = none := Option.some.inj h
    exact ⟨vs, ha', by rw [← r.length]; exact List.getElem?_eq_none_iff.mp h⟩
  · have h : xs[i]? = some x := Option.some.inj h
    obtain ⟨v, hv, rv⟩ := r'.get h
    refine ⟨⟨vs, v, ha', hv⟩, fun y H'' ⟨e1, e2⟩ => ⟨e1, ?_⟩⟩
    have := e2 vs ha'
    rw [hv] at this; cases this
    exact rv
theorem itok_lst {ρ : List Addr} {H : Hp} {a : Addr} {n : Nat} (ha : ρ[n]? = some a) : ItOk K ρ H (itL n) (Itl K a) := by
  intro i ρ' S' H' e s
  have ha' := e.pre _ _ ha
  refine ⟨fun h => ?_, fun x h => ?_⟩
  · obtain ⟨xs, h1, h⟩ := bnd h
    have h : xs[i]? = none := Option.some.inj h
    obtain ⟨b, vs, hb, sq, r⟩ := s.lstOf h1
    rw [ha'] at hb; cases hb
    exact ⟨vs, sq, by rw [← r.length]; exact List.getElem?_eq_none_iff.mp h⟩
  · obtain ⟨xs, h1, h⟩ := bnd h
    have h : xs[i]? = some x := Option.some.inj h
    obtain ⟨b, vs, hb, sq, r⟩ := s.lstOf h1
    rw [ha'] at hb; cases hb
    obtain ⟨v, hv, rv⟩ := r.get h
    refine ⟨⟨vs, v, sq, hv⟩, fun y H'' ⟨e1, e2⟩ => ⟨e1, ?_⟩⟩
    have := e2 vs sq
    rw [hv] at this; cases this
    exact rv
theorem itok_rng {ρ : List Addr} {H : Hp} {lo : Int} {n : Nat} : ItOk K ρ H (itX (rngD lo n)) (Itr lo n) := by
  intro i ρ' S' H' e s
  refine ⟨fun h => ?_, fun x h => ?_⟩
  · have h : (rngD lo n)[i]? = none := Option.some.inj h
    have := List.getElem?_eq_none_iff.mp h
    simp [rngD] at this
    exact this
  · have h : (rngD lo n)[i]? = some x := Option.some.inj h
    have hl := (List.getElem?_eq_some_iff.mp h).1
    simp only [rngD, List.length_map, List.length_range] at hl
    refine ⟨hl, fun y H'' ⟨e1, e2⟩ => ⟨e1, ?_⟩⟩
    unfold rngD at h
    rw [List.getElem?_map, List.getElem?_range hl] at h
    cases h
    rw [e2]
    exact .int _
end
section
variable {X : Cx} {tgt iter : Expr} {m : EM} {mA : AM} {p0 pos' : Pos} {a a2 : Expr}
theorem i3_val (hi : PE3 X iter m) : PI3 X tgt iter (iVal m) := PI.imp (PI.or (pi_list hi) (pi_tup hi)) fun σ H R hx1_ => by
  obtain ⟨ρ, l, S, it, k, S', sim, ro, hm, p⟩ := hx1_
  obtain ⟨⟨x, S1⟩, q1, hm⟩ := bnd hm
  dsimp only at hm
  split at hm
  · rename_i xs
    cases hm
    refine .inr ⟨ρ, l, S, .tup xs, _, sim, ro, q1, fun ρ1 H1 x' e1 s1 r1 => ?_⟩
    cases r1 with
    | @tup xs a vs ha r => exact ⟨a, rfl, ⟨vs, SqT.of ha⟩, p ρ1 H1 _ e1 s1 (itok_tup ha r)⟩
  · rename_i n
    obtain ⟨xs, hx, hm⟩ := bnd hm
    cases hm
    refine .inl ⟨ρ, l, S, .ref n, _, sim, ro, q1, fun ρ1 H1 x' e1 s1 r1 => ?_⟩
    obtain ⟨a, vs, ha, sq, rv⟩ := s1.lstOf hx
    cases r1 with
    | ref hn =>
      rw [ha] at hn; cases hn
      exact ⟨a, rfl, ⟨vs, sq⟩, p ρ1 H1 _ e1 s1 (itok_lst ha)⟩
  · cases hm
theorem i3_rng1 (hgl : Gl X "range") (hmg : X.mg "range" = none) (ha : PA3 X [a] mA) (hst : starEach [a] X.env = [(false, eval a X.env)] := by rfl) : PI3 X tgt (.Call (.Name "range" p0) [a] [] pos') (iRng (rng1 mA)) :=
  PI.imp (pi_range1 hgl hmg ha hst) fun σ H R hx2_ => by
    obtain ⟨ρ, l, S, it, k, S', sim, ro, hm, p⟩ := hx2_
    obtain ⟨⟨⟨lo, n⟩, S1⟩, q1, hm⟩ := bnd hm
    cases hm
    obtain ⟨⟨xs, S2⟩, q2, q1⟩ := bnd q1
    dsimp only at q1
    split at q1
    · rename_i j
      obtain ⟨hz, e⟩ := ite_some q1
      cases e
      refine ⟨ρ, l, S, [.int j], _, sim, ro, q2, fun ρ1 H1 vs e1 s1 r1 => ?_⟩
      obtain ⟨v, rfl, rv⟩ := r1.one
      cases rv
      exact ⟨j, rfl, hz.1, hz.2, p ρ1 H1 _ e1 s1 itok_rng⟩
    · cases q1
end
noncomputable def compG (it : ItM) (g : GM) (t : TM) (e : EM) : Nat → Nat → Lo → Sto → Option (List D × Sto)
  | 0, _, _, _ => none
  | k + 1, i, l, S => (it i S).bind fun o => match o with
    | none => some ([], S)
    | some x => (g x l S).bind fun p => (t p.1 p.2).bind fun q => if q.1 = true then (e p.1 q.2).bind fun r => (compG it g t e k (i + 1) p.1 r.2).bind fun z => some (r.1 :: z.1, z.2) else compG it g t e k (i + 1) p.1 q.2
noncomputable def srcL {α : Type} (ixs : List (Option Nat)) (l : List (Option α)) : List (Option α) := ixs.map fun o => match o with
  | some j => (l[j]?).join
  | none => none
noncomputable def eComp (im : IM) (ixs : List (Option Nat)) (g : GM) (t : TM) (e : EM) : EM := fun l S => (im l S).bind fun p => (compG p.1 g t e p.2.1 0 (srcL ixs l) p.2.2).bind fun z => if z.1.length ≤ sizeLine then some (.ref z.2.length, z.2 ++ [.lst z.1]) else none
noncomputable def tTrue : TM := fun _ S => some (true, S)
theorem srcL_ro {ρ : List Addr} {H : Hp} {l : Lo} {σ : St} (ixs : List (Option Nat)) (r : RO ρ H l σ) : RO ρ H (srcL ixs l) (srcL ixs σ) := by
  refine ⟨by simp [srcL], fun i d h => ?_⟩
  unfold srcL at h ⊢
  rw [List.getElem?_map] at h ⊢
  cases e : ixs[i]? with
  | none => rw [e] at h; cases h
  | some o =>
    rw [e] at h
    cases o with
    | none => cases h
    | some j =>
      have h : ((l[j]?).join : Option D) = some d := Option.some.inj h
      cases e2 : l[j]? with
      | none => rw [e2] at h; cases h
      | some o2 =>
        rw [e2] at h
        have h : o2 = some d := h
        subst h
        obtain ⟨v, h1, h2⟩ := r.get j d e2
        exact ⟨v, by show some ((σ[j]?).join) = _; rw [h1]; rfl, h2⟩
inductive CI3 (K : PySem.W.Frag) (it : ItM) (g : GM) (t : TM) (e : EM) (S2 : Sto) (all : List D) (ρ1 : List Addr) (H1 : Hp) (Da : Addr) (i m : Nat) (σ' : St) (H' : Hp) : Prop
  | mk (ρ' : List Addr) (l' : Lo) (S' : Sto) (ds : List D) (vs : List V) (rest : List D) (_ : Ext ρ1 H1 ρ' H') (_ : Sim K ρ' S' H') (_ : RO ρ' H' l' σ') (_ : H' Da = some (.lst vs)) (_ : (∀ n : Nat, ρ'[n]? ≠ some Da)) (_ : RDs ρ' H' ds vs) (_ : compG it g t e m i l' S' = some (rest, S2)) (_ : ds ++ rest = all)
theorem comp3 {K : PySem.W.Frag} {im : IM} {ixs : List (Option Nat)} {g : GM} {t : TM} {e : EM} (σ : St) (H : Hp) (Q : VK) (q : te K (eComp im ixs g t e) σ H Q) : tComp K (ti K im) (srcL ixs) (tg K g) (tt K t) (te K e) σ H Q := by
  obtain ⟨ρ, l, S, v, S', sim, ro, hm, p⟩ := q
  obtain ⟨⟨it, k, S1⟩, q1, hm⟩ := bnd hm
  obtain ⟨⟨all, S2⟩, q2, hm⟩ := bnd hm
  obtain ⟨hz, he⟩ := ite_some hm
  cases he
  refine ⟨ρ, l, S, it, k, S1, sim, ro, q1, fun ρ1 H1 J e1 s1 io D hD hK => ?_⟩
  dsimp only at q2 hz p
  refine ⟨fun i m σ' H' => CI3 K it g t e S2 all ρ1 H1 D i m σ' H', ⟨k, ?_⟩, ?_⟩
  · exact ⟨ρ1, srcL ixs l, S1, [], [], all, ext_new hD, s1.laid hD, (srcL_ro ixs (ro.mono e1)).mono (ext_new hD), upd_same, s1.notin hD hK, .nil, q2, rfl⟩
  · rintro i m σ' H' ⟨ρ', l', S', ds, vs, rest, e2, s2, ro2, hD2, hn2, rd2, hc, hall⟩
    cases m with
    | zero => cases hc
    | succ m =>
      unfold compG at hc
      obtain ⟨o, ho, hc⟩ := bnd hc
      obtain ⟨iStop, iGo⟩ := io i ρ' S' H' e2 s2
      cases o with
      | none =>
        cases hc
        rw [List.append_nil] at hall
        subst hall
        refine .inl ⟨iStop ho, p (ρ' ++ [D]) H' (.ref D) (e1.trans (e2.adopt hD)) (s2.adopt hD2 hn2 rd2) (.ref ?_)⟩
        rw [← s2.len]; exact get_self ρ' D
      | some x =>
        obtain ⟨⟨l3, S3⟩, q3, hc⟩ := bnd hc
        obtain ⟨⟨b, S4⟩, q4, hc⟩ := bnd hc
        obtain ⟨hgo, hy⟩ := iGo x ho
        refine .inr ⟨hgo, _, fun σ' H' h => h, fun y H'' hyl => ?_⟩
        obtain ⟨rfl, ry⟩ := hy y H'' hyl
        refine ⟨ρ', l', S', x, l3, S3, s2, ro2, ry, q3, fun ρ3 H3 σ3 e3 s3 ro3 => ⟨ρ3, l3, S3, b, S4, s3, ro3, q4, fun ρ4 H4 e4 s4 => ?_⟩⟩
        obtain ⟨hD3, hn3⟩ := e3.out D _ hD2 hn2
        obtain ⟨hD4, hn4⟩ := e4.out D _ hD3 hn3
        cases b with
        | false => exact iteF ⟨m, Nat.lt_succ_self m, ρ4, l3, S4, ds, vs, rest, e2.trans (e3.trans e4), s4, ro3.mono e4, hD4, hn4, rd2.mono (e3.trans e4), hc, hall⟩
        | true =>
          have hc : ((e l3 S4).bind fun r => (compG it g t e m (i + 1) l3 r.2).bind fun z => some (r.1 :: z.1, z.2)) = some (rest, S2) := hc
          obtain ⟨⟨y5, S5⟩, q5, hc⟩ := bnd hc
          obtain ⟨⟨rest', S6⟩, q6, hc⟩ := bnd hc
          cases hc
          refine iteT ⟨ρ4, l3, S4, y5, S5, s4, ro3.mono e4, q5, fun ρ5 H5 v5 e5 s5 r5 => ?_⟩
          obtain ⟨hD5, hn5⟩ := e5.out D _ hD4 hn4
          have e25 := e2.trans (e3.trans (e4.trans e5))
          have rd5 := rd2.mono (e3.trans (e4.trans e5))
          have hlen : vs.length < sizeLine := by
            have h1 := rd5.length
            have h2 := congrArg List.length hall
            rw [List.length_append, List.length_cons] at h2
            omega
          refine ⟨vs, hD5, hlen, m, Nat.lt_succ_self m, ρ5, l3, S5, ds ++ [y5], vs ++ [v5], rest', e25.beside hD hD5, s5.beside hD5 hn5, ?_, upd_same, hn5, ((rd5.append (.cons r5 .nil)).mono0 (ext0_upd hD5)), q6, by rw [← hall]; simp⟩
          have r0 := (ro3.mono e4).mono e5
          exact ⟨r0.len, fun i d h => let ⟨w, h1, h2⟩ := r0.get i d h; ⟨w, h1, h2.mono0 (ext0_upd hD5)⟩⟩
theorem pts3_nil {X : Cx} : PTs X [] (tt X.K tTrue) := fun pins s σ H Q I hx4_ => by
  obtain ⟨ρ, l, S, v, S', sim, ro, hm, p⟩ := hx4_
  cases hm
  exact pts_nil pins s σ H Q I (p ρ H (Ext.refl ..) sim)
theorem p3_comp {X : Cx} {N' : List Str} {elt iter tgt : Expr} {ifs : List Expr} {scope : Scope} {pos : Pos} {im : IM} {ixs : List (Option Nat)} {g : GM} {t : TM} {e : EM} (hcalm : X.calm = true) (sc : CompSc X N' scope (srcL ixs))
    (hi : PI3 X tgt iter im) (hg : ∀ C s H fp pins, PG3 (cxC X N' scope C s H fp pins) tgt g) (ht : ∀ C s H fp pins, PTs (cxC X N' scope C s H fp pins) ifs (tt X.K t)) (he : ∀ C s H fp pins, PE3 (cxC X N' scope C s H fp pins) elt e)
    (hs : ∀ x, foldedSetIterable iter X.env x = pure x := by intro _; rfl) : PE3 X (.ListComp elt [⟨tgt, iter, ifs, 0⟩] scope pos) (eComp im ixs g t e) :=
  PE.imp (pe_comp (g := tg X.K g) (tts := tt X.K t) (t := te X.K e) hcalm sc hi hg ht he hs) comp3
theorem s3_setc (j : Nat) {X : Cx} {N' : List Str} {elt iter tgt : Expr} {ifs : List Expr} {scope : Scope} {pos spos py : Pos} {y : Str} {im : IM} {ixs : List (Option Nat)} {g : GM} {t : TM} {e : EM} (hN : X.N.Nodup) (hcalm : X.calm = true) (sc : CompSc X N' scope (srcL ixs))
    (hi : PI3 X tgt iter im) (hg : ∀ C s H fp pins, PG3 (cxC X N' scope C s H fp pins) tgt g) (ht : ∀ C s H fp pins, PTs (cxC X N' scope C s H fp pins) ifs (tt X.K t)) (he : ∀ C s H fp pins, PE3 (cxC X N' scope C s H fp pins) elt e)
    (hi' : X.N[j]? = some y := by rfl) (hx : Loc X.env.scope y := by first | exact Or.inl rfl | exact Or.inr rfl)
    (hsw : swapsWith (.ListComp elt [⟨tgt, iter, ifs, 0⟩] scope pos) (some (.Name y py)) spos.line X.env = pure true := by with_unfolding_all rfl) (hf : X.fn y = true ∨ X.env.scope.names.lookup y = some .local := by first | exact .inl rfl | exact .inr rfl | assumption)
    (hs : ∀ x, foldedSetIterable iter X.env x = pure x := by intro _; rfl) : PS3 X (.Assign [.Name y py] (.ListComp elt [⟨tgt, iter, ifs, 0⟩] scope pos) spos) (sAsg (eComp im ixs g t e) (gName3 j)) :=
  PS.imp (ps_comp (g := tg X.K g) (tts := tt X.K t) (t := te X.K e) hN hi' hx hsw hf hcalm sc hi hg ht he hs) fun E σ H hx5_ => by
    obtain ⟨ρ, l, S, f, l', S', sim, ro, hm, p⟩ := hx5_
    obtain ⟨⟨x, S1⟩, q1, hm⟩ := bnd hm
    cases hm
    exact comp3 σ H _ ⟨ρ, l, S, x, S1, sim, ro, q1, fun ρ1 H1 x' e1 s1 r1 => p ρ1 H1 _ e1 s1 ((ro.mono e1).set j r1)⟩
end L3
namespace L3
open PySem PySem.Spec PyProof.Rows L2
noncomputable def dPlus : D → D → Sto → Option (D × Sto)
  | .int i, .int j, S => some (.int (i + j), S)
  | .tup xs, .tup ys, S => if xs.length + ys.length ≤ sizeLine then some (.tup (xs ++ ys), S) else none
  | .ref n, .ref m, S => match S[n]?, S[m]? with
    | some (.lst xs), some (.lst ys) => if xs.length + ys.length ≤ sizeLine then some (.ref S.length, S ++ [.lst (xs ++ ys)]) else none
    | _, _ => none
  | _, _, _ => none
theorem op3_plus {K : PySem.W.Frag} : Op3 K dPlus (fun x y H Q => rI0 (fun i j => .int (i + j)) x y H Q ∨ (rCatT K x y H Q ∨ rCatT0 K x y H Q) ∨ rCat x y H Q) := by
  intro ρ S H x y x' y' v S' Q sim rx ry h p
  unfold dPlus at h
  split at h
  · cases rx; cases ry; cases h
    exact .inl ⟨_, _, rfl, rfl, p ρ H _ (Ext.refl ..) sim (.int _)⟩
  · refine .inr (.inl (op3_catT ρ S H _ _ x' y' v S' Q sim rx ry ?_ p))
    unfold dCatT
    exact h
  · split at h
    · rename_i xs ys e1 e2
      obtain ⟨hz, e⟩ := ite_some h
      cases e
      obtain ⟨a, us, ha, hH, r2⟩ := sim.lst e1
      obtain ⟨b, ws, hb, hH2, r3⟩ := sim.lst e2
      cases rx with
      | ref hn =>
        rw [ha] at hn; cases hn
        cases ry with
        | ref hm =>
          rw [hb] at hm; cases hm
          exact .inr (.inr ⟨a, b, us, ws, rfl, rfl, hH, hH2, by rw [← r2.length, ← r3.length]; exact hz, new_lst sim (r2.append r3) p⟩)
    · cases h
  · cases h
section
variable {X : Cx} {a b : Expr} {ma mb : EM} {pos : Pos}
end
noncomputable def Has (P : Program) (w : World) (K : PySem.W.Frag) (mg : Str → Option Value) (base : Heap) (x : Str) (k n : Nat) (m : FM) : Prop :=
  ∃ (f : Addr) (fd : FuncData) (ps : List Str), FnOk P w K mg base CX0 k f fd ps (sp3 K n m) ∧ mg x = some (.ref f) ∧ PySem.W.keepIn K (.ref f) = true ∧ Binds K fd ps []
section
variable {X : Cx} {a : Expr} {es : List Expr} {mA : AM} {pos p : Pos} {x : Str} {k j n : Nat} {m : FM}
theorem p3_fn (F : Has X.prog X.w X.K X.mg X.base x k n m) (hr : Room j X.A) (hkj : k ≤ j) (hg : Gl X x)
    (ha : PA3 X (a :: es) mA) (hl : ∀ l S v S', mA l S = some (v, S') → v.length = n) (hdb : (x == ("__debug__" : Str)) = false := by decide) (he : starEach (a :: es) X.env = (false, eval a X.env) :: starEach es X.env := by rfl) (hpl : (backTo pos (starEach es X.env)).any (·.1) = false := by rfl) :
    PE3 X (.Call (.Name x p) (a :: es) [] pos) (eCall m mA) := by
  obtain ⟨f, fd, ps, F, hm, hk, hb⟩ := F
  exact p3_call F (hr.mono hkj) hg hm hk hb ha hl hdb he hpl
theorem boot_int' : bootBuiltins "int" = some (.type "int") := by decide +kernel
theorem boot_tuple' : bootBuiltins "tuple" = some (.type "tuple") := by decide +kernel
theorem boot_list' : bootBuiltins "list" = some (.type "list") := by decide +kernel
theorem boot_bool' : bootBuiltins "bool" = some (.type "bool") := by decide +kernel
theorem boot_str' : bootBuiltins "str" = some (.type "str") := by decide +kernel
theorem boot_min' : bootBuiltins "min" = some (.builtin "min") := by decide +kernel
theorem boot_max' : bootBuiltins "max" = some (.builtin "max") := by decide +kernel
theorem p3_tuple1 (hg : Gl X "tuple") (hm : X.mg "tuple" = none) (ha : PA3 X (a :: es) mA) (he : starEach (a :: es) X.env = (false, eval a X.env) :: starEach es X.env := by rfl) (hpl : (backTo pos (starEach es X.env)).any (·.1) = false := by rfl) : PE3 X (.Call (.Name "tuple" p) (a :: es) [] pos) (eCall fTuple mA) :=
  p3_callTy call_tuple_of fn3_tuple hg hm boot_tuple' ha (by decide) (by decide) he hpl
theorem p3_list1 (hg : Gl X "list") (hm : X.mg "list" = none) (ha : PA3 X (a :: es) mA) (he : starEach (a :: es) X.env = (false, eval a X.env) :: starEach es X.env := by rfl) (hpl : (backTo pos (starEach es X.env)).any (·.1) = false := by rfl) : PE3 X (.Call (.Name "list" p) (a :: es) [] pos) (eCall fList mA) :=
  p3_callTy call_list_of fn3_list hg hm boot_list' ha (by decide) (by decide) he hpl
theorem p3_min2 (hc : X.calm = true) (hg : Gl X "min") (hm : X.mg "min" = none) (ha : PA3 X (a :: es) mA) (he : starEach (a :: es) X.env = (false, eval a X.env) :: starEach es X.env := by rfl) (hpl : (backTo pos (starEach es X.env)).any (·.1) = false := by rfl) : PE3 X (.Call (.Name "min" p) (a :: es) [] pos) (eCall fMin2 mA) :=
  p3_callB (call_min2 hc) fn3_min2 hg hm boot_min' ha (by decide) (by decide) he hpl
theorem p3_max2 (hc : X.calm = true) (hg : Gl X "max") (hm : X.mg "max" = none) (ha : PA3 X (a :: es) mA) (he : starEach (a :: es) X.env = (false, eval a X.env) :: starEach es X.env := by rfl) (hpl : (backTo pos (starEach es X.env)).any (·.1) = false := by rfl) : PE3 X (.Call (.Name "max" p) (a :: es) [] pos) (eCall fMax2 mA) :=
  p3_callB (call_max2 hc) fn3_max2 hg hm boot_max' ha (by decide) (by decide) he hpl
end
theorem has_of {P : Program} {w : World} {K : PySem.W.Frag} {mg : Str → Option Value} {base : Heap} {x : Str} {st : Stmt} {f : Addr} {fd : FuncData} {N ps : List Str} {k n : Nat} {b : SM} (F : Fun K x x st f fd) (hm : mg x = some (.ref f)) (S : FnScope N ps (defScope st)) (hn : ps.length = n) (hb : Binds K fd ps [])
    (hbody : ∀ (cdv : Value), PySem.W.codeIn K cdv x = true → ∀ (A : Around) (outer : List Env) (s : Shared) (H : Hp) (E : XK), Room k (A.deeper (envOfC x (defScope st) s.heap.objs.size f cdv)) →
      PSs3 (cxOf CX0 P w K mg base N x (defScope st) f cdv A outer s H E).nox (defBody st) b) : Has P w K mg base x (k + 1) n (runB N.length b) :=
  ⟨f, fd, ps, fun3 F S hn hbody, hm, F.kp, hb⟩
noncomputable def chk (scO scope : Scope) (NO N' : List Str) (ixs : List (Option Nat)) : Bool :=
  decide (scope.kind = .function) && (scope.names.all fun y => y.2 != .cell) && (scope.names.all fun y => y.2 != .local || scope.names.lookup y.1 == some .local) &&
  (scope.names.all fun y => y.2 != .free || (scO.names.lookup y.1 == some .cell || scO.names.lookup y.1 == some .free)) && (ixs.length == N'.length) &&
  ((List.range ixs.length).all fun i => match ixs[i]? with | some (some j) => (NO[j]? == N'[i]? && (match N'[i]? with | some x => scope.names.lookup x == some .free | none => false)) | _ => true)
theorem compSc_of {X : Cx} {scO scope : Scope} {NO N' : List Str} {ixs : List (Option Nat)} (hX : X.env.scope = scO) (hN : X.N = NO) (h : chk scO scope NO N' ixs = true) : CompSc X N' scope (srcL ixs) := by
  unfold chk at h
  simp only [Bool.and_eq_true, decide_eq_true_eq, List.all_eq_true, beq_iff_eq, Bool.or_eq_true, bne_iff_ne, ne_eq] at h
  obtain ⟨⟨⟨⟨⟨h1, h2⟩, h3⟩, h4⟩, h5⟩, h6⟩ := h
  refine ⟨h1, h2, fun y hy hl => ?_, fun y hy hl => ?_, fun y hy => ?_, fun σ => by simp [srcL, h5], fun σ i v x hv hx => ?_⟩
  · rcases h3 y hy with z | z
    · exact absurd hl z
    · exact z
  · show X.env.scope.names.lookup y.1 = _ ∨ X.env.scope.names.lookup y.1 = _
    rw [hX]
    rcases h4 y hy with z | z
    · exact absurd hl z
    · exact z
  · have mem : ∃ k, (k = NameKind.cell ∨ k = NameKind.free) ∧ (y, k) ∈ (relabel scope X.env).names := by
      rcases hy with z | z
      · exact ⟨_, .inl rfl, PySem.mem_of_lookup z⟩
      · exact ⟨_, .inr rfl, PySem.mem_of_lookup z⟩
    obtain ⟨k, hk, hm⟩ := mem
    unfold relabel at hm
    obtain ⟨⟨n, k'⟩, hm1, hm2⟩ := List.mem_map.mp hm
    dsimp only at hm2
    split at hm2
    · rename_i hc
      have : k' = .free := by
        rw [Bool.and_eq_true, Bool.and_eq_true] at hc
        exact eq_of_beq hc.1.1
      cases hm2
      rw [← this]; exact hm1
    · cases hm2
      rcases hk with z | z
      · exact absurd z (h2 _ hm1)
      · rw [← z]; exact hm1
  · have hl : i < ixs.length := by
      have := (List.getElem?_eq_some_iff.mp hv).1
      simpa [srcL] using this
    unfold srcL at hv
    rw [List.getElem?_map] at hv
    have q := h6 i (List.mem_range.mpr hl)
    cases e : ixs[i]? with
    | none => rw [e] at hv; cases hv
    | some o =>
      rw [e] at hv
      cases o with
      | none => cases hv
      | some j =>
        rw [e] at q
        dsimp only at q
        rw [hx] at q
        simp only [Bool.and_eq_true, beq_iff_eq] at q
        have hv : ((σ[j]?).join : Option V) = some v := Option.some.inj hv
        refine ⟨j, by rw [hN]; exact q.1, ?_, q.2⟩
        cases e2 : σ[j]? with
        | none => rw [e2] at hv; cases hv
        | some o2 => rw [e2] at hv; have hv : o2 = some v := hv; rw [hv]
theorem law_sp {K : PySem.W.Frag} {H : Hp} {a : Addr} {ns : List Int} {m : FM} (hO : Only H) (hS : SqL K H a (ns.map V.int)) (h : ∃ S', m [.ref 0] [.flst (ns.map D.int)] = some (.bl true, S')) : sp3 K 1 m [.ref a] H (fun v _ => v = .bl true) fun _ _ _ => False := by
  obtain ⟨S', h⟩ := h
  have rn : ∀ ns : List Int, RDs [a] H (ns.map D.int) (ns.map V.int) := fun ns => by
    induction ns with
    | nil => exact .nil
    | cons x r ih => exact .cons (.int x) ih
  refine ⟨rfl, [a], [.ref 0], _, _, S', ⟨rfl, fun i j b o1 o2 h1 h2 h3 h4 m1 m2 => ?_, fun n b o h1 h2 => ?_⟩, .cons (.ref rfl) .nil, h, fun ρ' H' v' e s r => ?_⟩
  · cases i with
    | zero => cases h3; cases m1
    | succ i => cases h3
  · cases n with
    | succ n => cases h1
    | zero =>
      cases h1; cases h2
      refine ⟨_, ?_, rn ns⟩
      rcases hS with (z | ⟨o, z⟩) | z
      · rcases hO a with y | ⟨o, xs, y⟩ <;> (rw [z] at y; cases y)
      · exact .inl ⟨o, z⟩
      · exact .inr z
  · cases r; rfl
noncomputable def top (b : List Stmt) (i : Nat) : Stmt := b.getD i (.Pass ⟨0, 0, 0, 0⟩)
end L3
namespace L3
open PySem
noncomputable def We (m : EM) (l : Lo) (S : Sto) (Q : D → Sto → Prop) : Prop := ∃ v S', m l S = some (v, S') ∧ Q v S'
noncomputable def Wt (m : TM) (l : Lo) (S : Sto) (Q : Bool → Sto → Prop) : Prop := ∃ v S', m l S = some (v, S') ∧ Q v S'
noncomputable def Wa (m : AM) (l : Lo) (S : Sto) (Q : List D → Sto → Prop) : Prop := ∃ v S', m l S = some (v, S') ∧ Q v S'
noncomputable def Wo (o : Option (D × Sto)) (Q : D → Sto → Prop) : Prop := ∃ v S', o = some (v, S') ∧ Q v S'
noncomputable def Wg (o : Option (Lo × Sto)) (Q : Lo → Sto → Prop) : Prop := ∃ l S', o = some (l, S') ∧ Q l S'
noncomputable def Wr (o : Option (Fl × Lo × Sto)) (Q : Fl → Lo → Sto → Prop) : Prop := ∃ f l S', o = some (f, l, S') ∧ Q f l S'
noncomputable abbrev Ws (m : SM) (l : Lo) (S : Sto) (Q : Fl → Lo → Sto → Prop) : Prop := Wr (m l S) Q
section
variable {a b c : EM} {t u : TM} {l : Lo} {S : Sto} {Q : D → Sto → Prop} {QB : Bool → Sto → Prop} {QA : List D → Sto → Prop} {QS : Fl → Lo → Sto → Prop} {QG : Lo → Sto → Prop}
theorem we_var {i : Nat} : We (eVar i) l S Q = ∃ d, l[i]? = some (some d) ∧ Q d S := by
  apply propext; unfold We eVar
  constructor
  · rintro ⟨v, S', h, q⟩
    split at h
    · rename_i d e; cases h; exact ⟨_, e, q⟩
    · cases h
  · rintro ⟨d, e, q⟩
    exact ⟨d, S, by rw [e], q⟩
theorem we_c {d : D} : We (eC d) l S Q = Q d S := by
  apply propext; unfold We eC
  exact ⟨fun hx1_ => by obtain ⟨v, S', h, q⟩ := hx1_; cases h; exact q, fun q => ⟨_, _, rfl, q⟩⟩
theorem we_op {f : D → D → Sto → Option (D × Sto)} : We (eOp f a b) l S Q = We a l S fun x S1 => We b l S1 fun y S2 => Wo (f x y S2) Q := by
  apply propext
  constructor
  · rintro ⟨v, S', h, q⟩
    obtain ⟨⟨x, S1⟩, h1, h⟩ := bnd h
    obtain ⟨⟨y, S2⟩, h2, h⟩ := bnd h
    exact ⟨x, S1, h1, y, S2, h2, v, S', h, q⟩
  · rintro ⟨x, S1, h1, y, S2, h2, v, S', h, q⟩
    exact ⟨v, S', by unfold eOp; rw [h1]; show (b l S1).bind _ = _; rw [h2]; exact h, q⟩
theorem we_un {f : D → Sto → Option (D × Sto)} : We (eUn f a) l S Q = We a l S fun x S1 => Wo (f x S1) Q := by
  apply propext
  constructor
  · rintro ⟨v, S', h, q⟩
    obtain ⟨⟨x, S1⟩, h1, h⟩ := bnd h
    exact ⟨x, S1, h1, v, S', h, q⟩
  · rintro ⟨x, S1, h1, v, S', h, q⟩
    exact ⟨v, S', by unfold eUn; rw [h1]; exact h, q⟩
theorem wa_nil : Wa aNil l S QA = QA [] S := by
  apply propext
  exact ⟨fun hx2_ => by obtain ⟨v, S', h, q⟩ := hx2_; cases h; exact q, fun q => ⟨_, _, rfl, q⟩⟩
theorem wa_cons {r : AM} : Wa (aCons a r) l S QA = We a l S fun x S1 => Wa r l S1 fun xs S2 => QA (x :: xs) S2 := by
  apply propext
  constructor
  · rintro ⟨v, S', h, q⟩
    obtain ⟨⟨x, S1⟩, h1, h⟩ := bnd h
    obtain ⟨⟨y, S2⟩, h2, h⟩ := bnd h
    cases h
    exact ⟨x, S1, h1, y, _, h2, q⟩
  · rintro ⟨x, S1, h1, y, S2, h2, q⟩
    exact ⟨x :: y, S2, by unfold aCons; rw [h1]; show (r l S1).bind _ = _; rw [h2]; rfl, q⟩
theorem we_call {f : FM} {r : AM} : We (eCall f r) l S Q = Wa r l S fun xs S1 => Wo (f xs S1) Q := by
  apply propext
  constructor
  · rintro ⟨v, S', h, q⟩
    obtain ⟨⟨x, S1⟩, h1, h⟩ := bnd h
    exact ⟨x, S1, h1, v, S', h, q⟩
  · rintro ⟨x, S1, h1, v, S', h, q⟩
    exact ⟨v, S', by unfold eCall; rw [h1]; exact h, q⟩
theorem we_methL {f : D → List D → Sto → Option (D × Sto)} {r : AM} : We (eMethL f a r) l S Q = We a l S fun x S1 => (∃ xs, recvL x S1 = some xs) ∧ Wa r l S1 fun ys S2 => Wo (f x ys S2) Q := by
  apply propext
  constructor
  · rintro ⟨v, S', h, q⟩
    obtain ⟨⟨x, S1⟩, h1, h⟩ := bnd h
    obtain ⟨xs, h2, h⟩ := bnd h
    obtain ⟨⟨y, S2⟩, h3, h⟩ := bnd h
    exact ⟨x, S1, h1, ⟨xs, h2⟩, y, S2, h3, v, S', h, q⟩
  · rintro ⟨x, S1, h1, ⟨xs, h2⟩, y, S2, h3, v, S', h, q⟩
    refine ⟨v, S', ?_, q⟩
    unfold eMethL; rw [h1]; show (recvL x S1).bind _ = _; rw [h2]; show (r l S1).bind _ = _; rw [h3]; exact h
theorem wt_e : Wt (tE a) l S QB = We a l S fun x S1 => ∃ k, x = .bl k ∧ QB k S1 := by
  apply propext
  constructor
  · rintro ⟨v, S', h, q⟩
    obtain ⟨⟨x, S1⟩, h1, h⟩ := bnd h
    refine ⟨x, S1, h1, ?_⟩
    cases x with
    | bl k => cases h; exact ⟨_, rfl, q⟩
    | _ => cases h
  · rintro ⟨x, S1, h1, k, rfl, q⟩
    exact ⟨k, S1, by unfold tE; rw [h1]; rfl, q⟩
theorem wt_and : Wt (tAnd3 t u) l S QB = Wt t l S fun k S1 => if k = true then Wt u l S1 QB else QB false S1 := by
  apply propext
  constructor
  · rintro ⟨v, S', h, q⟩
    obtain ⟨⟨x, S1⟩, h1, h⟩ := bnd h
    refine ⟨x, S1, h1, ?_⟩
    cases x with
    | true => exact ⟨v, S', h, q⟩
    | false => cases h; exact q
  · rintro ⟨x, S1, h1, h⟩
    cases x with
    | true => obtain ⟨v, S', h, q⟩ := h; exact ⟨v, S', by unfold tAnd3; rw [h1]; exact h, q⟩
    | false => exact ⟨false, S1, by unfold tAnd3; rw [h1]; rfl, h⟩
theorem wt_or : Wt (tOr3 t u) l S QB = Wt t l S fun k S1 => if k = true then QB true S1 else Wt u l S1 QB := by
  apply propext
  constructor
  · rintro ⟨v, S', h, q⟩
    obtain ⟨⟨x, S1⟩, h1, h⟩ := bnd h
    refine ⟨x, S1, h1, ?_⟩
    cases x with
    | false => exact ⟨v, S', h, q⟩
    | true => cases h; exact q
  · rintro ⟨x, S1, h1, h⟩
    cases x with
    | false => obtain ⟨v, S', h, q⟩ := h; exact ⟨v, S', by unfold tOr3; rw [h1]; exact h, q⟩
    | true => exact ⟨true, S1, by unfold tOr3; rw [h1]; rfl, h⟩
theorem wt_not : Wt (tNot3 t) l S QB = Wt t l S fun k S1 => QB (!k) S1 := by
  apply propext
  constructor
  · rintro ⟨v, S', h, q⟩
    obtain ⟨⟨x, S1⟩, h1, h⟩ := bnd h
    cases h
    exact ⟨x, _, h1, q⟩
  · rintro ⟨x, S1, h1, q⟩
    exact ⟨!x, S1, by unfold tNot3; rw [h1]; rfl, q⟩
theorem wt_true : Wt tTrue l S QB = QB true S := by
  apply propext
  exact ⟨fun hx3_ => by obtain ⟨v, S', h, q⟩ := hx3_; cases h; exact q, fun q => ⟨_, _, rfl, q⟩⟩
theorem we_and : We (eAnd3 a b) l S Q = We a l S fun x S1 => ∃ k, x = .bl k ∧ if k = true then We b l S1 Q else Q (.bl false) S1 := by
  apply propext
  constructor
  · rintro ⟨v, S', h, q⟩
    obtain ⟨⟨x, S1⟩, h1, h⟩ := bnd h
    refine ⟨x, S1, h1, ?_⟩
    cases x with
    | bl k =>
      cases k with
      | true => exact ⟨true, rfl, v, S', h, q⟩
      | false => cases h; exact ⟨false, rfl, q⟩
    | _ => cases h
  · rintro ⟨x, S1, h1, k, rfl, h⟩
    cases k with
    | true => obtain ⟨v, S', h, q⟩ := h; exact ⟨v, S', by unfold eAnd3; rw [h1]; exact h, q⟩
    | false => exact ⟨_, S1, by unfold eAnd3; rw [h1]; rfl, h⟩
theorem we_or : We (eOr3 a b) l S Q = We a l S fun x S1 => ∃ k, x = .bl k ∧ if k = true then Q (.bl true) S1 else We b l S1 Q := by
  apply propext
  constructor
  · rintro ⟨v, S', h, q⟩
    obtain ⟨⟨x, S1⟩, h1, h⟩ := bnd h
    refine ⟨x, S1, h1, ?_⟩
    cases x with
    | bl k =>
      cases k with
      | false => exact ⟨false, rfl, v, S', h, q⟩
      | true => cases h; exact ⟨true, rfl, q⟩
    | _ => cases h
  · rintro ⟨x, S1, h1, k, rfl, h⟩
    cases k with
    | false => obtain ⟨v, S', h, q⟩ := h; exact ⟨v, S', by unfold eOr3; rw [h1]; exact h, q⟩
    | true => exact ⟨_, S1, by unfold eOr3; rw [h1]; rfl, h⟩
theorem we_not : We (eNot3 a) l S Q = We a l S fun x S1 => ∃ k, x = .bl k ∧ Q (.bl (!k)) S1 := by
  apply propext
  constructor
  · rintro ⟨v, S', h, q⟩
    obtain ⟨⟨x, S1⟩, h1, h⟩ := bnd h
    refine ⟨x, S1, h1, ?_⟩
    cases x with
    | bl k => cases h; exact ⟨k, rfl, q⟩
    | _ => cases h
  · rintro ⟨x, S1, h1, k, rfl, h⟩
    exact ⟨_, S1, by unfold eNot3; rw [h1]; rfl, h⟩
theorem we_if : We (eIf3 t a b) l S Q = Wt t l S fun k S1 => if k = true then We a l S1 Q else We b l S1 Q := by
  apply propext
  constructor
  · rintro ⟨v, S', h, q⟩
    obtain ⟨⟨x, S1⟩, h1, h⟩ := bnd h
    refine ⟨x, S1, h1, ?_⟩
    cases x with
    | true => exact ⟨v, S', h, q⟩
    | false => exact ⟨v, S', h, q⟩
  · rintro ⟨x, S1, h1, h⟩
    cases x with
    | true => obtain ⟨v, S', h, q⟩ := h; exact ⟨v, S', by unfold eIf3; rw [h1]; exact h, q⟩
    | false => obtain ⟨v, S', h, q⟩ := h; exact ⟨v, S', by unfold eIf3; rw [h1]; exact h, q⟩
variable {m n : SM}
theorem ws_next : Ws sNext l S QS = QS .nx l S := by
  apply propext
  exact ⟨fun hx4_ => by obtain ⟨f, v, S', h, q⟩ := hx4_; cases h; exact q, fun q => ⟨_, _, _, rfl, q⟩⟩
theorem ws_break : Ws sBreak l S QS = QS .bk l S := by
  apply propext
  exact ⟨fun hx5_ => by obtain ⟨f, v, S', h, q⟩ := hx5_; cases h; exact q, fun q => ⟨_, _, _, rfl, q⟩⟩
theorem ws_cont : Ws sCont l S QS = QS .ct l S := by
  apply propext
  exact ⟨fun hx6_ => by obtain ⟨f, v, S', h, q⟩ := hx6_; cases h; exact q, fun q => ⟨_, _, _, rfl, q⟩⟩
theorem ws_seq : Ws (sSeq m n) l S QS = Ws m l S fun f l1 S1 => match f with | .nx => Ws n l1 S1 QS | f => QS f l1 S1 := by
  apply propext
  constructor
  · rintro ⟨f, v, S', h, q⟩
    obtain ⟨⟨g, l1, S1⟩, h1, h⟩ := bnd h
    refine ⟨g, l1, S1, h1, ?_⟩
    cases g with
    | nx => exact ⟨f, v, S', h, q⟩
    | _ => cases h; exact q
  · rintro ⟨g, l1, S1, h1, h⟩
    cases g with
    | nx => obtain ⟨f, v, S', h, q⟩ := h; exact ⟨f, v, S', by unfold sSeq; rw [h1]; exact h, q⟩
    | bk => exact ⟨_, _, _, by unfold sSeq; rw [h1]; rfl, h⟩
    | ct => exact ⟨_, _, _, by unfold sSeq; rw [h1]; rfl, h⟩
    | rt d => exact ⟨_, _, _, by unfold sSeq; rw [h1]; rfl, h⟩
theorem ws_cut (R : Lo → Sto → Prop) (h1 : Ws m l S fun f l1 S1 => f = .nx ∧ R l1 S1) (h2 : ∀ l1 S1, R l1 S1 → Ws n l1 S1 QS) : Ws (sSeq m n) l S QS := by
  rw [ws_seq]
  obtain ⟨f, l1, S1, e, rfl, r⟩ := h1
  exact ⟨_, _, _, e, h2 l1 S1 r⟩
theorem ws_if : Ws (sIf t m n) l S QS = Wt t l S fun k S1 => if k = true then Ws m l S1 QS else Ws n l S1 QS := by
  apply propext
  constructor
  · rintro ⟨f, v, S', h, q⟩
    obtain ⟨⟨x, S1⟩, h1, h⟩ := bnd h
    refine ⟨x, S1, h1, ?_⟩
    cases x with
    | true => exact ⟨f, v, S', h, q⟩
    | false => exact ⟨f, v, S', h, q⟩
  · rintro ⟨x, S1, h1, h⟩
    cases x with
    | true => obtain ⟨f, v, S', h, q⟩ := h; exact ⟨f, v, S', by unfold sIf; rw [h1]; exact h, q⟩
    | false => obtain ⟨f, v, S', h, q⟩ := h; exact ⟨f, v, S', by unfold sIf; rw [h1]; exact h, q⟩
theorem ws_drop : Ws (sDrop a) l S QS = We a l S fun _ S1 => QS .nx l S1 := by
  apply propext
  constructor
  · rintro ⟨f, v, S', h, q⟩
    obtain ⟨⟨x, S1⟩, h1, h⟩ := bnd h
    cases h
    exact ⟨x, _, h1, q⟩
  · rintro ⟨x, S1, h1, q⟩
    exact ⟨_, _, _, by unfold sDrop; rw [h1]; rfl, q⟩
theorem ws_ret : Ws (sRet a) l S QS = We a l S fun x S1 => QS (.rt x) l S1 := by
  apply propext
  constructor
  · rintro ⟨f, v, S', h, q⟩
    obtain ⟨⟨x, S1⟩, h1, h⟩ := bnd h
    cases h
    exact ⟨x, _, h1, q⟩
  · rintro ⟨x, S1, h1, q⟩
    exact ⟨_, _, _, by unfold sRet; rw [h1]; rfl, q⟩
theorem ws_asg {g : GM} : Ws (sAsg a g) l S QS = We a l S fun x S1 => Wg (g x l S1) fun l2 S2 => QS .nx l2 S2 := by
  apply propext
  constructor
  · rintro ⟨f, v, S', h, q⟩
    obtain ⟨⟨x, S1⟩, h1, h⟩ := bnd h
    obtain ⟨⟨l2, S2⟩, h2, h⟩ := bnd h
    cases h
    exact ⟨x, S1, h1, _, _, h2, q⟩
  · rintro ⟨x, S1, h1, l2, S2, h2, q⟩
    refine ⟨_, _, _, ?_, q⟩
    unfold sAsg; rw [h1]; show (g x l S1).bind _ = _; rw [h2]; rfl
theorem wg_name {i : Nat} {d : D} : Wg (gName3 i d l S) QG = QG (l.set i (some d)) S := by
  apply propext
  exact ⟨fun hx7_ => by obtain ⟨v, S', h, q⟩ := hx7_; cases h; exact q, fun q => ⟨_, _, rfl, q⟩⟩
theorem wg_tup {k : Nat} {gs : GsM} {xs : List D} : Wg (gTup3 k gs (.tup xs) l S) QG = (xs.length = k ∧ Wg (gs xs l S) QG) := by
  apply propext
  constructor
  · rintro ⟨v, S', h, q⟩
    have h : (if xs.length = k then gs xs l S else none) = some (v, S') := h
    by_cases hl : xs.length = k
    · rw [if_pos hl] at h; exact ⟨hl, v, S', h, q⟩
    · rw [if_neg hl] at h; cases h
  · rintro ⟨hl, v, S', h, q⟩
    exact ⟨v, S', by show (if xs.length = k then gs xs l S else none) = _; rw [if_pos hl]; exact h, q⟩
theorem wg_nil : Wg (gNil3 [] l S) QG = QG l S := by
  apply propext
  exact ⟨fun hx8_ => by obtain ⟨v, S', h, q⟩ := hx8_; cases h; exact q, fun q => ⟨_, _, rfl, q⟩⟩
theorem wg_cons {g : GM} {gs : GsM} {x : D} {xs : List D} : Wg (gCons3 g gs (x :: xs) l S) QG = Wg (g x l S) fun l1 S1 => Wg (gs xs l1 S1) QG := by
  apply propext
  constructor
  · rintro ⟨v, S', h, q⟩
    obtain ⟨⟨l1, S1⟩, h1, h⟩ := bnd h
    exact ⟨l1, S1, h1, v, S', h, q⟩
  · rintro ⟨l1, S1, h1, v, S', h, q⟩
    exact ⟨v, S', by show (g x l S).bind _ = _; rw [h1]; exact h, q⟩
theorem wg_sub {o i : EM} {v : D} : Wg (gSub3 o i v l S) QG = We o l S fun x S1 => We i l S1 fun y S2 => ∃ S', setIx x y v S2 = some S' ∧ QG l S' := by
  apply propext
  constructor
  · rintro ⟨l', S', h, q⟩
    obtain ⟨⟨x, S1⟩, h1, h⟩ := bnd h
    obtain ⟨⟨y, S2⟩, h2, h⟩ := bnd h
    obtain ⟨S3, h3, h⟩ := bnd h
    cases h
    exact ⟨x, S1, h1, y, S2, h2, _, h3, q⟩
  · rintro ⟨x, S1, h1, y, S2, h2, S3, h3, q⟩
    refine ⟨l, S3, ?_, q⟩
    unfold gSub3; rw [h1]; show (i l S1).bind _ = _; rw [h2]; show (setIx x y v S2).bind _ = _; rw [h3]; rfl
theorem wo_some {d : D} : Wo (some (d, S)) Q = Q d S := by
  apply propext
  exact ⟨fun hx9_ => by obtain ⟨v, S', h, q⟩ := hx9_; cases h; exact q, fun q => ⟨_, _, rfl, q⟩⟩
theorem wo_bind {α : Type} {o : Option α} {f : α → Option (D × Sto)} : Wo (o.bind f) Q = ∃ x, o = some x ∧ Wo (f x) Q := by
  cases o with
  | none => simp [Wo]
  | some x => simp [Wo]
theorem wo_ite {p : Prop} [Decidable p] {x : D × Sto} : Wo (if p then some x else none) Q = (p ∧ Q x.1 x.2) := by
  obtain ⟨a, b⟩ := x
  by_cases hp : p
  · rw [if_pos hp]
    apply propext
    exact ⟨fun hx10_ => by obtain ⟨v, S', h, q⟩ := hx10_; cases h; exact ⟨hp, q⟩, fun q => ⟨a, b, rfl, q.2⟩⟩
  · simp [hp, Wo]
theorem wo_I0 {g : Int → Int → D} {i j : Int} : Wo (oI0 g (.int i) (.int j) S) Q = Q (g i j) S := wo_some
theorem wo_I {C : Int → Int → Bool} {g : Int → Int → D} {i j : Int} : Wo (oI C g (.int i) (.int j) S) Q = (C i j = true ∧ Q (g i j) S) := wo_ite
theorem wo_ixT {xs : List D} {i : Int} : Wo (dIx (.tup xs) (.int i) S) Q = ∃ v, L2.atI xs i = some v ∧ Q v S := by
  show Wo ((L2.atI xs i).bind fun v => some (v, S)) Q = _
  rw [wo_bind]; simp only [wo_some]
theorem wo_ixL {k : Nat} {i : Int} : Wo (dIx (.ref k) (.int i) S) Q = ∃ xs, lstOf S k = some xs ∧ ∃ v, L2.atI xs i = some v ∧ Q v S := by
  show Wo ((lstOf S k).bind fun xs => (L2.atI xs i).bind fun v => some (v, S)) Q = _
  rw [wo_bind]; simp only [wo_bind, wo_some]
theorem wo_lenT {xs : List D} : Wo (fLen [.tup xs] S) Q = Q (.int xs.length) S := wo_some
theorem wo_lenL {k : Nat} : Wo (fLen [.ref k] S) Q = ∃ xs, lstOf S k = some xs ∧ Q (.int xs.length) S := by
  show Wo ((lstOf S k).bind fun xs => some (.int xs.length, S)) Q = _
  rw [wo_bind]; simp only [wo_some]
theorem wo_abs {i : Int} : Wo (fAbs [.int i] S) Q = Q (.int (if i < 0 then -i else i)) S := wo_some
theorem wo_intB {k : Bool} : Wo (fInt [.bl k] S) Q = Q (.int (if k then 1 else 0)) S := wo_some
theorem wo_tup {xs : List D} : Wo (fTup xs S) Q = (xs.length ≤ sizeLine ∧ Q (.tup xs) S) := wo_ite
theorem wo_lst {xs : List D} : Wo (fLst xs S) Q = (xs.length ≤ sizeLine ∧ Q (.ref S.length) (S ++ [.lst xs])) := wo_ite
theorem wo_tupleL {k : Nat} : Wo (fTuple [.ref k] S) Q = ∃ xs, lstOf S k = some xs ∧ Q (.tup xs) S := by
  show Wo ((lstOf S k).bind fun xs => some (.tup xs, S)) Q = _
  rw [wo_bind]; simp only [wo_some]
theorem wo_eqI {i j : Int} : Wo (dEq (.int i) (.int j) S) Q = Q (.bl (decide (i = j))) S := wo_some
theorem wo_eqB {i j : Bool} : Wo (dEq (.bl i) (.bl j) S) Q = Q (.bl (decide (i = j))) S := wo_some
theorem wo_neS {i j : Str} : Wo (dNe (.str i) (.str j) S) Q = Q (.bl (!decide (i = j))) S := wo_some
theorem wo_is {x : D} : Wo (dIs x .non S) Q = Q (.bl (isNon x)) S := by
  cases x <;> exact wo_some
theorem wo_isnot {x : D} : Wo (dIsNot x .non S) Q = Q (.bl (!isNon x)) S := by
  cases x <;> exact wo_some
theorem wo_append {k : Nat} {x : D} : Wo (mAppend (.ref k) [x] S) Q = ∃ xs, S[k]? = some (.lst xs) ∧ xs.length < sizeLine ∧ Q .non (S.set k (.lst (xs ++ [x]))) := by
  show Wo (match S[k]? with | some (.lst xs) => if xs.length < sizeLine then some (.non, S.set k (.lst (xs ++ [x]))) else none | _ => none) Q = _
  cases e : S[k]? with
  | none => simp [Wo]
  | some o =>
    cases o with
    | lst xs => simp [wo_ite]
    | flst xs => simp [Wo]
    | iset f n => simp [Wo]
    | dct kvs => simp [Wo]
    | fdct kvs => simp [Wo]
    | ftdct kvs => simp [Wo]
    | tset ks => simp [Wo]
    | fnc x => simp [Wo]
    | tdct kvs => simp [Wo]
    | exc c => simp [Wo]
theorem wo_run {k : Nat} {b : SM} {ds : List D} : Wo (runB k b ds S) Q = Ws b (ds.map some ++ List.replicate (k - ds.length) none) S fun f _ S1 => match f with | .rt d => Q d S1 | .nx => Q .non S1 | _ => False := by
  apply propext
  constructor
  · rintro ⟨v, S', h, q⟩
    obtain ⟨⟨f, l1, S1⟩, h1, h⟩ := bnd h
    refine ⟨f, l1, S1, h1, ?_⟩
    cases f with
    | rt d => cases h; exact q
    | nx => cases h; exact q
    | bk => cases h
    | ct => cases h
  · rintro ⟨f, l1, S1, h1, q⟩
    cases f with
    | rt d => exact ⟨_, _, by unfold runB; rw [h1]; rfl, q⟩
    | nx => exact ⟨_, _, by unfold runB; rw [h1]; rfl, q⟩
    | bk => cases q
    | ct => cases q
end
theorem Wo.mono {o : Option (D × Sto)} {Q Q' : D → Sto → Prop} (h : Wo o Q) (i : ∀ v S, Q v S → Q' v S) : Wo o Q' := let ⟨v, S, e, q⟩ := h; ⟨v, S, e, i v S q⟩
theorem Wr.mono {o : Option (Fl × Lo × Sto)} {Q Q' : Fl → Lo → Sto → Prop} (h : Wr o Q) (i : ∀ f v S, Q f v S → Q' f v S) : Wr o Q' := let ⟨f, v, S, e, q⟩ := h; ⟨f, v, S, e, i f v S q⟩
section
variable {g : GM} {b : SM} {l : Lo} {S : Sto} {QS : Fl → Lo → Sto → Prop}
theorem ws_forR {as : AM} : Ws (sForR (rng1 as) g b) l S QS = Wa as l S fun xs S1 => ∃ j, xs = [.int j] ∧ (-(2 ^ 62) ≤ j ∧ j < 2 ^ 62) ∧ Wr (forX g b (rngD 0 j.toNat) l S1) QS := by
  apply propext
  constructor
  · rintro ⟨f, v, S', h, q⟩
    obtain ⟨⟨⟨lo, n⟩, S1⟩, h1, h⟩ := bnd h
    obtain ⟨⟨xs, S2⟩, h2, h1⟩ := bnd h1
    dsimp only at h1
    split at h1
    · rename_i j
      obtain ⟨hz, e⟩ := ite_some h1
      cases e
      exact ⟨_, _, h2, j, rfl, hz, f, v, S', h, q⟩
    · cases h1
  · rintro ⟨xs, S1, h1, j, rfl, hz, f, v, S', h, q⟩
    refine ⟨f, v, S', ?_, q⟩
    have : rng1 as l S = some ((0, j.toNat), S1) := by
      unfold rng1; rw [h1]; show (if _ then _ else _) = _; rw [if_pos hz]
    unfold sForR; show (rng1 as l S).bind _ = _; rw [this]; exact h
theorem rngD_get {lo : Int} {n i : Nat} {x : D} (h : (rngD lo n)[i]? = some x) : i < n ∧ x = .int (lo + i) := by
  have hl := (List.getElem?_eq_some_iff.mp h).1
  simp only [rngD, List.length_map, List.length_range] at hl
  unfold rngD at h
  rw [List.getElem?_map, List.getElem?_range hl] at h
  exact ⟨hl, (Option.some.inj h).symm⟩
theorem rngD_len (lo : Int) (n : Nat) : (rngD lo n).length = n := by simp [rngD]
end
end L3
namespace L3
open PySem PySem.Spec PyProof.Rows L2
mutual
noncomputable def pyOf (S : Sto) : Nat → D → Option PyData
  | 0, _ => none
  | _ + 1, .non => some .none
  | _ + 1, .bl b => some (.bool b)
  | _ + 1, .int i => if i.natAbs.log2 < 1920 then some (.int i) else none
  | _ + 1, .str x => some (.str x)
  | k + 1, .tup xs => (pyAll S k xs).bind fun ds => some (.tuple ds)
  | k + 1, .ref n => (lstOf S n).bind fun xs => (pyAll S k xs).bind fun ds => some (.list ds)
  | _ + 1, .fn _ => none
termination_by k => (k, 0)
noncomputable def pyAll (S : Sto) : Nat → List D → Option (List PyData)
  | _, [] => some []
  | k, x :: xs => (pyOf S k x).bind fun d => (pyAll S k xs).bind fun ds => some (d :: ds)
termination_by k xs => (k, xs.length + 1)
end
noncomputable def fRepr : FM
  | [x], S => (pyOf S 140 x).bind fun d => if d.shown.length ≤ sizeLine then some (.str d.shown, S) else none
  | _, _ => none
section
variable {X : Cx} {pins : List (Addr × Obj)} {σ : St} {H : Hp} {s : Shared} {ρ : List Addr} {S : Sto}
mutual
theorem reads_of (I : Inv X pins σ H s) (sim : Sim X.K ρ S H) : ∀ (k : Nat) (d : D) (v : V) (u : Value) (p : PyData), RD ρ H d v → RelV v u → pyOf S k d = some p → (∃ as, Reads s.heap u p as) ∧ p.showable = true ∧ p.hasDict = false ∧ p.depth ≤ k
  | 0, d, v, u, p, _, _, h => by unfold pyOf at h; cases h
  | k + 1, .non, v, u, p, r, e, h => by
    unfold pyOf at h; cases h; cases r; cases e
    exact ⟨⟨_, .none⟩, rfl, rfl, Nat.zero_le _⟩
  | k + 1, .bl b, v, u, p, r, e, h => by
    unfold pyOf at h; cases h; cases r; cases e
    exact ⟨⟨_, .bool b⟩, rfl, rfl, Nat.zero_le _⟩
  | k + 1, .int i, v, u, p, r, e, h => by
    unfold pyOf at h
    obtain ⟨hz, e2⟩ := ite_some h
    cases e2; cases r
    obtain ⟨t, rfl⟩ := e
    exact ⟨⟨_, .int i t⟩, by unfold PyData.showable; exact decide_eq_true hz, rfl, Nat.zero_le _⟩
  | k + 1, .str x, v, u, p, r, e, h => by
    unfold pyOf at h; cases h; cases r
    obtain ⟨t, rfl⟩ := e
    exact ⟨⟨_, .str x t⟩, rfl, rfl, Nat.zero_le _⟩
  | k + 1, .fn _, v, u, p, r, e, h => by unfold pyOf at h; cases h
  | k + 1, .tup xs, v, u, p, r, e, h => by
    unfold pyOf at h
    obtain ⟨ds, h1, h⟩ := bnd h
    cases h
    cases r with
    | tup ha r =>
      cases e
      obtain ⟨its, rv, ⟨o, ho, hc, n, hd⟩, hz⟩ := I.tuple (SqT.of ha)
      obtain ⟨⟨as, h2⟩, h3, h4, h5⟩ := readsAll_of I sim k xs _ _ ds r rv h1
      refine ⟨⟨as, .tuple ho hc hd (by simpa using h2)⟩, ?_, ?_, ?_⟩
      · unfold PyData.showable; exact h3
      · unfold PyData.hasDict; exact h4
      · unfold PyData.depth; omega
  | k + 1, .ref n, v, u, p, r, e, h => by
    unfold pyOf at h
    obtain ⟨xs, h0, h⟩ := bnd h
    obtain ⟨ds, h1, h⟩ := bnd h
    cases h
    obtain ⟨a, vs, ha, sq, rd⟩ := sim.lstOf h0
    cases r with
    | ref hn =>
      rw [ha] at hn; cases hn
      cases e
      obtain ⟨its, rv, pl, hz⟩ := I.list sq
      obtain ⟨o, ho, hc, m, hd⟩ := pl.isList
      obtain ⟨⟨as, h2⟩, h3, h4, h5⟩ := readsAll_of I sim k xs _ _ ds rd rv h1
      refine ⟨⟨_, .list ho hc hd (by simpa using h2)⟩, ?_, ?_, ?_⟩
      · unfold PyData.showable; exact h3
      · unfold PyData.hasDict; exact h4
      · unfold PyData.depth; omega
termination_by k => (k, 0)
theorem readsAll_of (I : Inv X pins σ H s) (sim : Sim X.K ρ S H) : ∀ (k : Nat) (xs : List D) (vs : List V) (us : List Value) (ds : List PyData), RDs ρ H xs vs → Vals vs us → pyAll S k xs = some ds → (∃ as, ReadsAll s.heap us ds as) ∧ PyData.showableAll ds = true ∧ PyData.hasDictAll ds = false ∧ PyData.depthAll ds ≤ k
  | k, [], vs, us, ds, r, e, h => by
    unfold pyAll at h; cases h; cases r; cases e
    exact ⟨⟨_, .nil⟩, rfl, rfl, Nat.zero_le _⟩
  | k, x :: xs, vs, us, ds, r, e, h => by
    unfold pyAll at h
    obtain ⟨d, h1, h⟩ := bnd h
    obtain ⟨ds', h2, h⟩ := bnd h
    cases h
    cases r with
    | cons r1 r2 =>
      cases e with
      | cons e1 e2 =>
        obtain ⟨⟨as, q1⟩, q2, q3, q4⟩ := reads_of I sim k x _ _ d r1 e1 h1
        obtain ⟨⟨bs, p1⟩, p2, p3, p4⟩ := readsAll_of I sim k xs _ _ ds' r2 e2 h2
        refine ⟨⟨_, .cons q1 p1⟩, ?_, ?_, ?_⟩
        · unfold PyData.showableAll; rw [q2, p2]; rfl
        · unfold PyData.hasDictAll; rw [q3, p3]; rfl
        · unfold PyData.depthAll; omega
termination_by k xs => (k, xs.length + 1)
end
end
end L3
namespace L3
open PySem PySem.Spec PyProof.Rows L2
section
variable {X : Cx} {a : Expr} {es : List Expr} {mA : AM} {pos p : Pos}
theorem call_repr3 {k : Nat} (hr : Room k X.A) : CallR X (.builtin "repr") (fun xs H Q => ∃ v ρ S d pd, xs = [v] ∧ Sim X.K ρ S H ∧ RD ρ H d v ∧ pyOf S 140 d = some pd ∧ pd.shown.length ≤ sizeLine ∧ Q (.str pd.shown) H) := by
  intro pins s σ H xs us Q I r h
  obtain ⟨v, ρ, S, d, pd, rfl, sim, rd, hp, hz, q⟩ := h
  obtain ⟨u, rfl, ru⟩ := vals1 r
  have key := reads_of I sim 140 d v u pd rd ru hp
  have byRef : ∀ a, u = .ref a → wpAny (model X.prog X.w) X.A (call (.builtin "repr") [u]) (EP X pins σ Q) X.xe s := fun b hb => by
    subst hb
    obtain ⟨⟨as, h1⟩, h2, h3, h4⟩ := key
    have hu : X.A.units + (pd.depth + 1) < cLine := by have := hr.un; omega
    refine repr_of_reads' h1 h2 (fun z => by rw [h3] at z; cases z) hr.gd hu (fun _ _ e => e) (fun h' u tk hk => ?_) hz
    exact ⟨.str pd.shown, H, I.kept hk, ⟨u, rfl⟩, q⟩
  have hp' := hp
  cases rd with
  | non => cases ru; unfold pyOf at hp'; cases hp'; exact P.repr_of_none ⟨.str _, H, I.tok _, ⟨_, rfl⟩, q⟩
  | bl b => cases ru; unfold pyOf at hp'; cases hp'; exact P.repr_of_bool ⟨.str _, H, I.tok _, ⟨_, by cases b <;> rfl⟩, q⟩
  | int i =>
    obtain ⟨t, rfl⟩ := ru
    unfold pyOf at hp'
    obtain ⟨hi, e⟩ := ite_some hp'
    cases e
    exact P.repr_of_int hi ⟨.str _, H, I.tok _, ⟨_, rfl⟩, q⟩
  | str x => obtain ⟨t, rfl⟩ := ru; unfold pyOf at hp'; cases hp'; exact P.repr_of_str ⟨.str _, H, I.tok _, ⟨_, rfl⟩, q⟩ hz
  | tup ha r => exact byRef _ ru
  | ref hn => exact byRef _ ru
  | fn b => unfold pyOf at hp'; cases hp'
theorem fn3_repr {K : PySem.W.Frag} : Fn3 K fRepr (fun xs H Q => ∃ v ρ S d pd, xs = [v] ∧ Sim K ρ S H ∧ RD ρ H d v ∧ pyOf S 140 d = some pd ∧ pd.shown.length ≤ sizeLine ∧ Q (.str pd.shown) H) := by
  intro ρ S H xs vs v S' Q sim r h p
  unfold fRepr at h
  split at h
  · obtain ⟨pd, h1, h⟩ := bnd h
    obtain ⟨hz, e⟩ := ite_some h
    cases e
    obtain ⟨w, rfl, rw'⟩ := r.one
    exact ⟨w, ρ, _, _, pd, rfl, sim, rw', h1, hz, p ρ H _ (Ext.refl ..) sim (.str _)⟩
  · cases h
theorem boot_repr' : bootBuiltins "repr" = some (.builtin "repr") := by decide +kernel
theorem p3_repr {k : Nat} (hr : Room k X.A) (hg : Gl X "repr") (hm : X.mg "repr" = none) (ha : PA3 X (a :: es) mA) (he : starEach (a :: es) X.env = (false, eval a X.env) :: starEach es X.env := by rfl) (hpl : (backTo pos (starEach es X.env)).any (·.1) = false := by rfl) : PE3 X (.Call (.Name "repr" p) (a :: es) [] pos) (eCall fRepr mA) :=
  p3_callB (call_repr3 hr) fn3_repr hg hm boot_repr' ha (by decide) (by decide) he hpl
end
end L3
namespace L3
open PySem PySem.Spec PyProof.Rows L2
theorem noFill_tuple_mul : fillsNumberSlot (.type "tuple") "mul" = pure false :=
  PySem.fillsNumberSlot_seq (id := "tuple.__mul__") (r := some (.builtin "tuple.__rmul__")) PySem.F.slot_tuple_mul.lookup (by decide +kernel) PySem.F.slot_tuple_rmul.lookup (by decide +kernel)
theorem repeat_tuple : seqRepeat? (.type "tuple") = pure (some (.builtin "tuple.__mul__")) := by
  unfold seqRepeat?
  rw [PySem.seqSlot_of (T := "tuple") (name := "__mul__") (id := "tuple.__mul__") PySem.F.slot_tuple_mul.lookup (by decide +kernel), PySem.seqSlot_of (T := "tuple") (name := "__rmul__") (id := "tuple.__rmul__") PySem.F.slot_tuple_rmul.lookup (by decide +kernel)]
  rfl
open PySem.AutoSeq1 (wpAny_loadPart')
theorem rmul_int_tuple (a : Int) (t : Tok) (l : Addr) (items : Array Value) (n : Nat) (dd : Option Addr) (sl : Array (Option Value)) :
    Meets (Builtin.«int.__rmul__» ⟨[.int a t, .ref l], []⟩) (fun _ R s => s.heap.get? l = some { cls := .type "tuple", dict := dd, data := .seq items n, slots := sl } ∧ R (.ok (.ret Value.notImplemented)) s) :=
  .of_wp fun prog w A R s h => by obtain ⟨hp, g, d, tk, os⟩ := s; obtain ⟨hl, h⟩ := h; wp_walk; exact ⟨_, rfl, h⟩
section
variable {prog : Program} {w : World} {A : Around} {E : Value → Shared → Prop} {s : Shared}
theorem mul_tup {t : Addr} {items : Array Value} {k : Int} {u : Tok} {Q : Value → Shared → Prop} (ht : IsTup s.heap t items) (k0 : 2 ≤ k) (k1 : k < 2 ^ 31) (hi : items.isEmpty = false) (hz : items.size * k.toNat ≤ sizeLine)
    (h : Q (.ref s.heap.objs.size) { s with heap := s.heap.push { cls := .type "tuple", data := .seq ((List.replicate k.toNat items).foldl (· ++ ·) #[]) } }) (h6 : ((List.replicate k.toNat items).foldl (· ++ ·) #[]).size ≤ sizeLine) :
    wpAny (model prog w) A (call (.builtin "tuple.__mul__") [.ref t, .int k u]) Q E s := by
  refine wpAny_call_entry PySem.F.slot_tuple_mul ht.typeIs PySem.F.entry_tuple_mul ?_ (PySem.F.args_tuple_mul_2 _ _)
  show wpAny _ _ (asIndex (.int k u) >>= _) _ _ s
  refine wpAny_bind ?_
  show wpAny _ _ (pure k) _ _ s
  refine wpAny_pure ?_
  have e1 : (decide (k < -(2 ^ 63)) || decide (k ≥ 2 ^ 63)) = false := by
    rw [Bool.or_eq_false_iff]; exact ⟨decide_eq_false (by omega), decide_eq_false (by omega)⟩
  have e2 : (items.isEmpty || k == 1) = false := by rw [hi, Bool.false_or]; exact beq_false_of_ne (by omega)
  have e3 : (decide (k ≤ 0) || items.isEmpty) = false := by rw [hi, Bool.or_false]; exact decide_eq_false (by omega)
  show wpAny _ _ (if (decide (k < -(2 ^ 63)) || decide (k ≥ 2 ^ 63)) = true then _ else _) _ _ s
  rw [if_neg (by rw [e1]; exact Bool.false_ne_true)]
  refine wpAny_bind (tupleItemsOf_ ht ?_)
  show wpAny _ _ (if (items.isEmpty || k == 1) = true then _ else _) _ _ s
  rw [if_neg (by rw [e2]; exact Bool.false_ne_true)]
  show wpAny _ _ (if (decide (k ≤ 0) || items.isEmpty) = true then _ else _) _ _ s
  rw [if_neg (by rw [e3]; exact Bool.false_ne_true)]
  have hk : (items.size : Int) * k = ((items.size * k.toNat : Nat) : Int) := by rw [Int.natCast_mul, Int.toNat_of_nonneg (by omega)]
  have hs : (sizeLine : Nat) = 16777216 := by decide
  show wpAny _ _ (if (items.size : Int) * k > (2 ^ 63 - 1) / 8 then _ else _) _ _ s
  rw [if_neg (by rw [hk]; omega)]
  show wpAny _ _ (if Builtin.Tuple.tupleTooMany ((items.size : Int) * k) = true then _ else _) _ _ s
  rw [if_neg (by unfold Builtin.Tuple.tupleTooMany; rw [hk]; simp only [decide_eq_true_eq]; omega)]
  first
    | exact wpAny_bind (m := Builtin.Tuple.tupleExact _) (wpAny_newObj_type (wpAny_pure ⟨_, rfl, h⟩) h6)
    | exact wpAny_bind (m := Builtin.Tuple.tupleExact _) (wpAny_newObj_type (wpAny_pure ⟨_, rfl, wpAny_pure h⟩) h6)
theorem mul_tup1 {t : Addr} {items : Array Value} {u : Tok} {Q : Value → Shared → Prop} (ht : IsTup s.heap t items) (h : Q (.ref t) s) :
    wpAny (model prog w) A (call (.builtin "tuple.__mul__") [.ref t, .int 1 u]) Q E s := by
  refine wpAny_call_entry PySem.F.slot_tuple_mul ht.typeIs PySem.F.entry_tuple_mul ?_ (PySem.F.args_tuple_mul_2 _ _)
  show wpAny _ _ (asIndex (.int 1 u) >>= _) _ _ s
  refine wpAny_bind ?_
  show wpAny _ _ (pure (1 : Int)) _ _ s
  refine wpAny_pure ?_
  show wpAny _ _ (if (decide ((1 : Int) < -(2 ^ 63)) || decide ((1 : Int) ≥ 2 ^ 63)) = true then _ else _) _ _ s
  rw [if_neg (by decide)]
  refine wpAny_bind (tupleItemsOf_ ht ?_)
  show wpAny _ _ (if (items.isEmpty || (1 : Int) == 1) = true then _ else _) _ _ s
  rw [if_pos (by simp)]
  unfold Builtin.Tuple.tupleIsExact
  refine wpAny_bind (wpAny_bind (wpAny_typeOf ht.typeIs (wpAny_pure ?_)))
  rw [if_pos (by decide)]
  exact wpAny_bind (wpAny_rule (wpAny_pure ⟨_, rfl, h⟩))
theorem mul_tup0 {t : Addr} {items : Array Value} {k : Int} {u : Tok} {Q : Value → Shared → Prop} (ht : IsTup s.heap t items) (k0 : k = 0) (hi : items.isEmpty = false)
    (h : Q (.ref s.heap.objs.size) { s with heap := s.heap.push { cls := .type "tuple", data := .seq #[] } }) :
    wpAny (model prog w) A (call (.builtin "tuple.__mul__") [.ref t, .int k u]) Q E s := by
  subst k0
  refine wpAny_call_entry PySem.F.slot_tuple_mul ht.typeIs PySem.F.entry_tuple_mul ?_ (PySem.F.args_tuple_mul_2 _ _)
  show wpAny _ _ (asIndex (.int 0 u) >>= _) _ _ s
  refine wpAny_bind ?_
  show wpAny _ _ (pure (0 : Int)) _ _ s
  refine wpAny_pure ?_
  show wpAny _ _ (if (decide ((0 : Int) < -(2 ^ 63)) || decide ((0 : Int) ≥ 2 ^ 63)) = true then _ else _) _ _ s
  rw [if_neg (by decide)]
  refine wpAny_bind (tupleItemsOf_ ht ?_)
  show wpAny _ _ (if (items.isEmpty || (0 : Int) == 1) = true then _ else _) _ _ s
  rw [if_neg (by rw [hi]; decide)]
  show wpAny _ _ (if (decide ((0 : Int) ≤ 0) || items.isEmpty) = true then _ else _) _ _ s
  rw [if_pos (by simp)]
  first
    | exact wpAny_bind (m := Builtin.Tuple.tupleExact _) (wpAny_newObj_type (wpAny_pure ⟨_, rfl, h⟩) (Nat.zero_le _))
    | exact wpAny_bind (m := Builtin.Tuple.tupleExact _) (wpAny_newObj_type (wpAny_pure ⟨_, rfl, h⟩) (by decide))
end
noncomputable def rRepT3 (K : PySem.W.Frag) : R2 := fun x y H Q => ∃ a k xs, x = .ref a ∧ y = .int k ∧ SqT K H a xs ∧ xs ≠ [] ∧ 0 ≤ k ∧ k < 2 ^ 31 ∧ xs.length * k.toNat ≤ sizeLine ∧
  (k = 1 → Q (.ref a) H) ∧ (k ≠ 1 → ∀ p, H p = none → Q (.ref p) (upd H p (.tup (List.replicate k.toNat xs).flatten)))
theorem op_repT3 {X : Cx} : OpR X (binaryOp .Mult) (rRepT3 X.K) := by
  intro pins s σ H x y v u Q I rx ry h
  obtain ⟨a, k, xs, rfl, rfl, hx, hne, k0, k1, hz, q1, q2⟩ := h
  cases rx
  obtain ⟨t, rfl⟩ := ry
  obtain ⟨its, r, pt, _⟩ := I.tuple hx
  have hne' : its ≠ [] := fun z => hne (r.nil_iff.mp z)
  have hie : its.toArray.isEmpty = false := by cases its with
    | nil => exact absurd rfl hne'
    | cons _ _ => simp
  obtain ⟨⟨cls, dd, data, sl⟩, ho, hc, n, hd⟩ := id pt
  simp only at hc hd
  subst hc hd
  refine wpAny_binaryOp_repeat_ref (T := "tuple") (U := "int") (by decide) ⟨_, ho, rfl⟩ (fun s' => typeIs_int s' k t) noFill_tuple_mul PySem.F.fills_int_mul PySem.F.slot_int_rmul repeat_tuple PySem.F.slot_int_index.lookup
    (call_meets PySem.F.slot_int_rmul (typeIs_int s k t) PySem.F.entry_int_rmul (PySem.F.args_int_rmul_2 _ _) (rmul_int_tuple k t a its.toArray n dd sl) ⟨ho, rfl, ⟨_, ho, rfl⟩, ?_⟩)
  have f0 : ∀ m : Nat, List.foldl (fun x1 x2 => x1 ++ x2) #[] (List.replicate m its.toArray) = (List.replicate m its).flatten.toArray := fun m => by
    have := foldl_rep its m []
    rw [List.nil_append] at this
    exact this
  have hl : xs.length = its.length := r.length
  by_cases e1 : k = 1
  · subst e1
    exact mul_tup1 pt ⟨.ref a, H, I, rfl, q1 rfl⟩
  · by_cases e0 : k = 0
    · refine mul_tup0 pt e0 hie ?_
      have hv : Vals ([] : List V) ([] : List Value) := .nil
      refine ⟨.ref s.heap.objs.size, _, I.laid (t' := s.toks) (o := .tup []) (fun b ob q => Heap.get?_push_of_some _ q) (Nat.le_refl _) ?_, rfl, ?_⟩
      · exact ⟨Nat.zero_le _, [], .nil, IsTup.new _ _⟩
      · have := q2 e1 _ (I.hok.fresh (Nat.le_refl _))
        subst e0
        exact this
    · have hlen : (List.replicate k.toNat its).flatten.length = k.toNat * its.length := len_rep its k.toNat
      refine mul_tup pt (by omega) k1 hie (by rw [List.size_toArray, ← hl]; exact hz) ?_ ?_
      · rw [f0]
        refine ⟨.ref s.heap.objs.size, _, I.laid (t' := s.toks) (o := .tup (List.replicate k.toNat xs).flatten) (fun b ob q => Heap.get?_push_of_some _ q) (Nat.le_refl _) ?_, rfl, q2 e1 _ (I.hok.fresh (Nat.le_refl _))⟩
        exact ⟨by rw [len_rep, Nat.mul_comm]; exact hz, _, r.rep k.toNat, IsTup.new _ _⟩
      · rw [f0, List.size_toArray, hlen, Nat.mul_comm, ← hl]; exact hz
noncomputable def dTimes : D → D → Sto → Option (D × Sto)
  | .int i, .int j, S => if (-(2 ^ 64) < i ∧ i < 2 ^ 64) ∨ (-(2 ^ 64) < j ∧ j < 2 ^ 64) then some (.int (i * j), S) else none
  | .tup (x :: xs), .int k, S => if 0 ≤ k ∧ k < 2 ^ 31 ∧ (xs.length + 1) * k.toNat ≤ sizeLine then some (.tup (List.replicate k.toNat (x :: xs)).flatten, S) else none
  | _, _, _ => none
theorem op3_times {K : PySem.W.Frag} : Op3 K dTimes (fun x y H Q => rI CMul (fun i j => .int (i * j)) x y H Q ∨ rRepT3 K x y H Q) := by
  intro ρ S H x y x' y' v S' Q sim rx ry h p
  unfold dTimes at h
  split at h
  · obtain ⟨hc, e⟩ := ite_some h
    cases e; cases rx; cases ry
    exact .inl ⟨_, _, rfl, rfl, hc, p ρ H _ (Ext.refl ..) sim (.int _)⟩
  · rename_i x xs k
    obtain ⟨⟨k0, k1, hz⟩, e⟩ := ite_some h
    cases e; cases ry
    cases rx with
    | @tup _ a vs ha r =>
      have hl := r.length
      refine .inr ⟨a, k, vs, rfl, rfl, SqT.of ha, ?_, k0, k1, by rw [← hl]; exact hz, fun e => ?_, fun _ => new_tup sim (r.rep k.toNat) p⟩
      · intro z; rw [z] at hl; cases hl
      · subst e
        have e2 : (List.replicate (1 : Int).toNat (x :: xs)).flatten = x :: xs := by simp
        rw [e2] at p
        exact p ρ H _ (Ext.refl ..) sim (.tup ha r)
  · cases h
section
variable {X : Cx} {a b : Expr} {ma mb : EM} {pos : Pos}
theorem p3_times (ha : PE3 X a ma) (hb : PE3 X b mb) : PE3 X (.BinOp a .Mult b pos) (eOp dTimes ma mb) := p3_op (op_mul.or op_repT3) op3_times ha hb
end
end L3
namespace L3
open PySem PySem.Spec PyProof.Rows L2
section
variable {X : Cx} {c : Expr} {body : List Stmt} {mc : TM} {mb : SM} {pos : Pos}
end
section
variable {X : Cx}
variable {a b : Expr} {ma mb : EM} {pos : Pos}
end
noncomputable def dEqD : D → D → Sto → Option (D × Sto) := fun x y S => (pyOf S 60 x).bind fun p => (pyOf S 60 y).bind fun q => if p.canLay0 = true ∧ q.canLay0 = true then some (.bl (p.eqv q), S) else none
noncomputable def rEqD (K : PySem.W.Frag) (neg : Bool) : R2 := fun x y H Q => ∃ ρ S dx dy p q, Sim K ρ S H ∧ RD ρ H dx x ∧ RD ρ H dy y ∧ pyOf S 60 dx = some p ∧ pyOf S 60 dy = some q ∧ p.canLay0 = true ∧ q.canLay0 = true ∧ Q (.bl (if neg then !p.eqv q else p.eqv q)) H
section
variable {X : Cx}
theorem op_eqD {k : Nat} (hr : Room k X.A) : OpR X (compareOp .Eq) (rEqD X.K false) := by
  intro pins s σ H x y v u Q I rx ry h
  obtain ⟨ρ, S, dx, dy, p, q, sim, r1, r2, h1, h2, c1, c2, hq⟩ := h
  obtain ⟨⟨as, k1⟩, _, _, k2⟩ := reads_of I sim 60 dx x v p r1 rx h1
  obtain ⟨⟨bs, k3⟩, _, _, k4⟩ := reads_of I sim 60 dy y u q r2 ry h2
  have hu : X.A.units + min p.depth q.depth < cLine := by have := hr.un; have : min p.depth q.depth ≤ p.depth := Nat.min_le_left _ _; omega
  exact PySem.SeqAt.compareEq_reads k1 k3 c1 c2 hu ⟨.bl _, H, I, rfl, hq⟩
theorem op3_eqD {K : PySem.W.Frag} : Op3 K dEqD (rEqD K false) := by
  intro ρ S H x y x' y' v S' Q sim rx ry h p
  obtain ⟨d1, h1, h⟩ := bnd h
  obtain ⟨d2, h2, h⟩ := bnd h
  obtain ⟨hc, e⟩ := ite_some h
  cases e
  exact ⟨ρ, _, x, y, d1, d2, sim, rx, ry, h1, h2, hc.1, hc.2, p ρ H _ (Ext.refl ..) sim (.bl _)⟩
variable {a b : Expr} {ma mb : EM} {pos : Pos} {k : Nat}
theorem t3_eqD (hr : Room k X.A) (ha : PE3 X a ma) (hb : PE3 X b mb) : PT3 X (.Compare a [.Eq] [b] pos) (tE (eOp dEqD ma mb)) := t3_cmp (op_eqD hr) op3_eqD ha hb (nomark b)
end
end L3
namespace L3
open PySem PySem.Spec PyProof.Rows L2
section
variable {X : Cx}
variable {a b : Expr} {ma mb : EM} {pos : Pos}
end
section
variable {X : Cx}
variable {o e : Expr} {mo m : EM} {apos cpos : Pos}
end
section
variable {prog : Program} {w : World} {A : Around} {E : Value → Shared → Prop} {s : Shared}
end
section
variable {X : Cx}
end
end L3
namespace L3
open PySem PySem.Spec PyProof.Rows L2
section
variable {X : Cx} {o e : Expr} {mo m : EM} {apos cpos : Pos}
end
section
variable {X : Cx} {o e : Expr} {mo m : EM} {apos cpos : Pos}
end
section
variable {X : Cx}
variable {a a2 : Expr} {mA : AM} {p p0 pos pos' : Pos}
end
end L3
namespace L3
open PySem PySem.Spec PyProof.Rows L2
noncomputable def isT : D → Bool
  | .bl b => b
  | _ => false
noncomputable def isBlD : D → Bool
  | .bl _ => true
  | _ => false
noncomputable def vT : V → Bool
  | .bl b => b
  | _ => false
noncomputable def isBlV : V → Bool
  | .bl _ => true
  | _ => false
noncomputable def fAll : FM
  | [.ref n], S => (lstOf S n).bind fun xs => if xs.all isBlD = true then some (.bl (xs.all isT), S) else none
  | _, _ => none
theorem vt_ok {ρ : List Addr} {H : Hp} {x : D} {x' : V} (r : RD ρ H x x') : vT x' = isT x ∧ isBlV x' = isBlD x := by
  cases r <;> exact ⟨rfl, rfl⟩
theorem vts_ok {ρ : List Addr} {H : Hp} : ∀ {xs : List D} {vs : List V}, RDs ρ H xs vs → vs.all vT = xs.all isT ∧ vs.any vT = xs.any isT ∧ vs.all isBlV = xs.all isBlD
  | _, _, .nil => ⟨rfl, rfl, rfl⟩
  | _, _, .cons r q => by
    obtain ⟨h1, h2⟩ := vt_ok r
    obtain ⟨h3, h4, h5⟩ := vts_ok q
    simp only [List.all_cons, List.any_cons, h1, h2, h3, h4, h5, and_self]
section
variable {X : Cx}
theorem all_get {ys : List V} (tr : Nat → Bool) (h : ∀ (i : Nat) y, ys[i]? = some y → tr i = vT y) : (List.range ys.length).all tr = ys.all vT ∧ (List.range ys.length).any tr = ys.any vT := by
  have e : (List.range ys.length).map tr = ys.map vT := by
    apply List.ext_getElem?
    intro i
    rw [List.getElem?_map, List.getElem?_map]
    by_cases hi : i < ys.length
    · rw [List.getElem?_range hi, List.getElem?_eq_getElem hi]
      simp [h i _ (List.getElem?_eq_getElem hi)]
    · rw [List.getElem?_eq_none_iff.mpr (by simpa using hi), List.getElem?_eq_none_iff.mpr (by simpa using hi)]; rfl
  have a1 : (List.range ys.length).all tr = ((List.range ys.length).map tr).all id := by rw [List.all_map]; rfl
  have a2 : ys.all vT = (ys.map vT).all id := by rw [List.all_map]; rfl
  have a3 : (List.range ys.length).any tr = ((List.range ys.length).map tr).any id := by rw [List.any_map]; rfl
  have a4 : ys.any vT = (ys.map vT).any id := by rw [List.any_map]; rfl
  exact ⟨by rw [a1, a2, e], by rw [a3, a4, e]⟩
noncomputable def rAll (K : PySem.W.Frag) (f : List V → Bool) : List V → Hp → VK → Prop := fun xs H Q => ∃ p ys, xs = [.ref p] ∧ SqL K H p ys ∧ ys.all isBlV = true ∧ Q (.bl (f ys)) H
theorem all_walk {pins : List (Addr × Obj)} {s : Shared} {σ : St} {H : Hp} {p : Addr} {ys : List V} {E : Value → Shared → Prop} {R : Bool → Bool → Shared → Prop} (hc : X.calm = true) (I : Inv X pins σ H s) (hq : SqL X.K H p ys) (hb : ys.all isBlV = true)
    (h : ∀ s', Inv X pins σ H s' → R (ys.all vT) (ys.any vT) s') :
    wpAny (model X.prog X.w) X.A.in1 (pyIter (.ref p)) (fun it s₂ => ∃ I fp wr n P St tr, it = .ref I ∧ Walks X.prog X.w X.A.in1 I fp wr n P St ∧ St 0 s₂.heap ∧ TruthOf X.prog X.w X.A.in1 P tr ∧
      ∀ h' tk, (∀ b o, b ∉ wr → s₂.heap.get? b = some o → h'.get? b = some o) → R ((List.range n).all tr) ((List.range n).any tr) { s₂ with heap := h', toks := tk }) E s := by
  obtain ⟨its, rv, pl, hz⟩ := I.list hq
  refine wpAny_pyIter_list pl.isList ?_
  have hne : p ≠ s.heap.objs.size := by
    obtain ⟨o, ho, _⟩ := pl.isList
    exact Nat.ne_of_lt (Heap.lt_size ho)
  have I1 : Inv X pins σ H { s with heap := s.heap.push { cls := .type "list_iterator", data := .fields #[.ref p, rawInt 0] } } := I.kept (t' := s.toks) fun b o e => Heap.get?_push_of_some _ e
  have fp := I.fpOk (Nat.le_refl s.heap.objs.size) I.fresh
  refine ⟨_, _, _, its.toArray.size, _, _, fun i => match its[i]? with | some (.bool b) => b | _ => false, rfl, Walks.list (A := X.A.in1) (I.ok.hd hc) s.heap.objs.size p hne its.toArray, ?_, ?_, ?_⟩
  · obtain ⟨o, ho, hc', n, hd⟩ := pl.isList
    exact ⟨⟨_, Heap.get?_push_size _ rfl, rfl, rfl⟩, ⟨o, Heap.get?_push_of_some _ ho, hc', n, hd⟩⟩
  · intro i v s' Q E' hP hQ
    have e1 : its[i]? = some v := by simpa using hP
    have hl := rv.length
    have hi : i < ys.length := by rw [hl]; exact (List.getElem?_eq_some_iff.mp e1).1
    obtain ⟨u, hu, ru⟩ := rv.get (List.getElem?_eq_getElem hi)
    rw [e1] at hu; cases hu
    have hb2 := List.all_eq_true.mp hb _ (List.getElem_mem hi)
    dsimp only at hQ
    rw [e1] at hQ
    revert ru hb2
    generalize ys[i] = y
    intro ru hb2
    cases y with
    | bl b => cases ru; exact wpAny_truthy_bool hQ
    | _ => exact absurd (show false = true from hb2) Bool.false_ne_true
  · intro h' tk k
    have hs : its.toArray.size = ys.length := by rw [List.size_toArray, rv.length]
    obtain ⟨a1, a2⟩ := all_get (ys := ys) (fun i => match its[i]? with | some (.bool b) => b | _ => false) (fun i y hy => by
      obtain ⟨u, hu, ru⟩ := rv.get hy
      have hb2 := List.all_eq_true.mp hb _ (List.mem_of_getElem? hy)
      rw [hu]
      cases y with
      | bl b => cases ru; rfl
      | _ => exact absurd (show false = true from hb2) Bool.false_ne_true)
    rw [hs, a1, a2]
    exact h _ (I1.turned (t' := tk) (fun b o hb' e => k b o (by simpa using hb') e) fp.1 fp.2.1 fp.2.2.2.1 fp.2.2.2.2.1 fp.2.2.2.2.2)
theorem call_all3 (hc : X.calm = true) : CallR X (.builtin "all") (rAll X.K fun ys => ys.all vT) := by
  intro pins s σ H xs us Q I r h
  obtain ⟨p, ys, rfl, hq, hb, q⟩ := h
  obtain ⟨u1, rfl, r1⟩ := r.one
  cases r1
  exact PySem.call_all_walk (all_walk (R := fun a _ s' => EP X pins σ Q (.bool a) s') hc I hq hb fun s' I' => ⟨.bl _, H, I', rfl, q⟩)
theorem fn3_all {K : PySem.W.Frag} : Fn3 K fAll (rAll K fun ys => ys.all vT) := by
  intro ρ S H xs vs v S' Q sim r h p
  unfold fAll at h
  split at h
  · obtain ⟨ys, h1, h⟩ := bnd h
    obtain ⟨hb, e⟩ := ite_some h
    cases e
    obtain ⟨w, rfl, rw'⟩ := r.one
    obtain ⟨a, us, ha, sq, r2⟩ := sim.lstOf h1
    obtain ⟨t1, t2, t3⟩ := vts_ok r2
    cases rw' with
    | ref hn =>
      rw [ha] at hn; cases hn
      exact ⟨_, us, rfl, sq, by rw [t3]; exact hb, by dsimp only; rw [t1]; exact p ρ H _ (Ext.refl ..) sim (.bl _)⟩
  · cases h
theorem boot_all3 : bootBuiltins "all" = some (.builtin "all") := by decide +kernel
variable {a : Expr} {es : List Expr} {mA : AM} {p pos : Pos}
theorem p3_all (hc : X.calm = true) (hg : Gl X "all") (hm : X.mg "all" = none) (ha : PA3 X (a :: es) mA) (he : starEach (a :: es) X.env = (false, eval a X.env) :: starEach es X.env := by rfl) (hpl : (backTo pos (starEach es X.env)).any (·.1) = false := by rfl) : PE3 X (.Call (.Name "all" p) (a :: es) [] pos) (eCall fAll mA) :=
  p3_callB (call_all3 hc) fn3_all hg hm boot_all3 ha (by decide) (by decide) he hpl
end
end L3
namespace L3
open PySem PySem.Spec PyProof.Rows L2
section
variable {X : Cx} {pos : Pos}
end
section
variable {X : Cx} {a b : Expr} {ma mb : EM} {pos : Pos} {k : Nat}
end
section
variable {X : Cx} {pins : List (Addr × Obj)} {σ : St} {H : Hp} {s : Shared} {ρ : List Addr} {S : Sto}
end
section
variable {X : Cx} {a : Expr} {es : List Expr} {mA : AM} {pos p : Pos}
end
end L3
namespace L3
open PySem PySem.Spec PyProof.Rows L2
section
variable {prog : Program} {w : World} {A : Around} {E : Value → Shared → Prop} {s : Shared}
end
section
variable {P : Program} {w : World} {K : PySem.W.Frag} {elts : List Expr} {z : Nat} {tp : Pos}
end
end L3
namespace L3
open PySem PySem.Spec PyProof.Rows L2
open AutoSeq1 (wpAny_loadPart')
section
variable {prog : Program} {w : World} {A : Around} {E : Value → Shared → Prop} {s : Shared}
end
section
variable {X : Cx} {elts : List Expr} {z : Nat} {tp : Pos}
end
section
variable {K : PySem.W.Frag}
end
section
variable {X : Cx} {elts : List Expr} {z : Nat} {tp : Pos} {a : Expr} {mA : AM} {g : GM} {b : SM} {body : List Stmt} {p0 pos' pos : Pos}
end
end L3
namespace L3
open PySem PySem.Spec PyProof.Rows L2
section
variable {prog : Program} {w : World} {A : Around} {E : Value → Shared → Prop} {s : Shared}
end
section
variable {X : Cx} {gs : GsM} {es : List Expr} {k n : Nat} {pos : Pos}
theorem PG.or {tg : Expr} {t u : TG} (h : PG X tg t) (h' : PG X tg u) : PG X tg (fun v σ H Q => t v σ H Q ∨ u v σ H Q) := by
  intro pins s σ H v w Q I r q
  rcases q with q | q
  · exact h pins s σ H v w Q I r q
  · exact h' pins s σ H v w Q I r q
end
section
variable {X : Cx} {a : Expr} {ma : EM} {lo hi : Option Expr} {ml mh : OM} {p2 pos : Pos}
end
noncomputable def chkIn (scope : Scope) (N' : List Str) (ixs : List (Option Nat)) : Bool :=
  decide (scope.kind = .function) && (scope.names.all fun y => y.2 != .cell) && (scope.names.all fun y => y.2 != .free) && (scope.names.all fun y => y.2 != .local || scope.names.lookup y.1 == some .local) && (ixs.length == N'.length) && (ixs.all fun i => i == none)
theorem compSc_in {X : Cx} {scope : Scope} {N' : List Str} {ixs : List (Option Nat)} (h : chkIn scope N' ixs = true) : CompSc X N' scope (srcL ixs) := by
  unfold chkIn at h
  simp only [Bool.and_eq_true, decide_eq_true_eq, List.all_eq_true, beq_iff_eq, Bool.or_eq_true, bne_iff_ne, ne_eq] at h
  obtain ⟨⟨⟨⟨⟨h1, h2⟩, h3⟩, h4⟩, h5⟩, h6⟩ := h
  refine ⟨h1, h2, fun y hy hl => ?_, fun y hy hl => absurd hl (h3 y hy), fun y hy => ?_, fun σ => by simp [srcL, h5], fun σ i v x hv hx => ?_⟩
  · rcases h4 y hy with z | z
    · exact absurd hl z
    · exact z
  · exfalso
    have mem : ∃ k, (k = NameKind.cell ∨ k = NameKind.free) ∧ (y, k) ∈ (relabel scope X.env).names := by
      rcases hy with z | z
      · exact ⟨_, .inl rfl, PySem.mem_of_lookup z⟩
      · exact ⟨_, .inr rfl, PySem.mem_of_lookup z⟩
    obtain ⟨k, hk, hm⟩ := mem
    unfold relabel at hm
    obtain ⟨⟨n, k'⟩, hm1, hm2⟩ := List.mem_map.mp hm
    dsimp only at hm2
    split at hm2
    · rename_i hc
      rw [Bool.and_eq_true, Bool.and_eq_true] at hc
      exact h3 _ hm1 (eq_of_beq hc.1.1)
    · cases hm2
      rcases hk with z | z
      · exact h2 _ hm1 z
      · exact h3 _ hm1 z
  · exfalso
    unfold srcL at hv
    rw [List.getElem?_map] at hv
    cases e : ixs[i]? with
    | none => rw [e] at hv; cases hv
    | some o =>
      rw [e, h6 o (List.mem_of_getElem? e)] at hv
      cases hv
end L3
namespace L3
open PySem PySem.Spec PyProof.Rows L2
section
variable {X : Cx} {a b : Expr} {ma mb : EM} {mA : AM} {es : List Expr} {pos p : Pos}
end
noncomputable def dIxS : D → D → Sto → Option (D × Sto)
  | .str z, .int i, S => if z.length ≤ sizeLine then (atI z.cps.toList i).bind fun c => some (.str ⟨#[c]⟩, S) else none
  | _, _, _ => none
noncomputable def dIxA : D → D → Sto → Option (D × Sto) := fun x y S => match dIx x y S with | some v => some v | none => dIxS x y S
theorem op3_ixS {K : PySem.W.Frag} : Op3 K dIxS rIxS := by
  intro ρ S H x y x' y' v S' Q sim rx ry h p
  unfold dIxS at h
  split at h
  · cases rx; cases ry
    split at h
    · rename_i hz
      obtain ⟨c, h1, h⟩ := bnd h
      cases h
      exact ⟨_, _, c, rfl, rfl, hz, h1, p ρ H _ (Ext.refl ..) sim (.str _)⟩
    · cases h
  · cases h
theorem op3_ixA {K : PySem.W.Frag} : Op3 K dIxA (rIx K) := by
  intro ρ S H x y x' y' v S' Q sim rx ry hm p
  unfold dIxA at hm
  cases e : dIx x y S with
  | some w => rw [e] at hm; cases hm; exact op3_ix ρ S H x y x' y' _ _ Q sim rx ry e p
  | none => rw [e] at hm; exact .inr (.inr (op3_ixS ρ S H x y x' y' _ _ Q sim rx ry hm p))
noncomputable def fLenA : FM
  | [.str z], S => if z.length ≤ sizeLine then some (.int z.length, S) else none
  | xs, S => fLen xs S
noncomputable def fStr : FM
  | [.int i], S => if i.natAbs.log2 < 1920 then some (.str (toString i), S) else none
  | [.str z], S => none
  | _, _ => none
section
variable {X : Cx} {a b : Expr} {ma mb : EM} {mA : AM} {es : List Expr} {pos p : Pos} {K : PySem.W.Frag}
theorem p3_ixA (ha : PE3 X a ma) (hb : PE3 X b mb) (hs : PlainIx b := by intro _ _; rfl) : PE3 X (.Subscript a b pos) (eOp dIxA ma mb) := PE.imp (pe_ix ix_seq ha hb hs) (te_op op3_ixA)
theorem fn3_lenA : Fn3 K fLenA (fun xs H Q => (∃ p ys, xs = [.ref p] ∧ (SqL K H p ys ∨ SqT K H p ys) ∧ Q (.int ys.length) H) ∨ ∃ z, xs = [.str z] ∧ z.length ≤ sizeLine ∧ Q (.int z.length) H) := by
  intro ρ S H xs vs v S' Q sim r h p
  unfold fLenA at h
  split at h
  · obtain ⟨hz, e⟩ := ite_some h
    cases e
    obtain ⟨w, rfl, rw'⟩ := r.one
    cases rw'
    exact .inr ⟨_, rfl, hz, p ρ H _ (Ext.refl ..) sim (.int _)⟩
  · exact .inl (fn3_len ρ S H _ vs v S' Q sim r h p)
theorem p3_lenA (hg : Gl X "len") (hm : X.mg "len" = none) (ha : PA3 X (a :: es) mA) (he : starEach (a :: es) X.env = (false, eval a X.env) :: starEach es X.env := by rfl) (hpl : (backTo pos (starEach es X.env)).any (·.1) = false := by rfl) : PE3 X (.Call (.Name "len" p) (a :: es) [] pos) (eCall fLenA mA) :=
  p3_callB (call_len_seq.or call_len_str) fn3_lenA hg hm PySem.boot_len ha (by decide) (by decide) he hpl
theorem fn3_str : Fn3 K fStr (fun xs H Q => ∃ i, xs = [.int i] ∧ i.natAbs.log2 < 1920 ∧ Q (.str (toString i)) H) := by
  intro ρ S H xs vs v S' Q sim r h p
  unfold fStr at h
  split at h
  · obtain ⟨hz, e⟩ := ite_some h
    cases e
    obtain ⟨w, rfl, rw'⟩ := r.one
    cases rw'
    exact ⟨_, rfl, hz, p ρ H _ (Ext.refl ..) sim (.str _)⟩
  · cases h
  · cases h
theorem p3_str1 (hg : Gl X "str") (hm : X.mg "str" = none) (ha : PA3 X (a :: es) mA) (he : starEach (a :: es) X.env = (false, eval a X.env) :: starEach es X.env := by rfl) (hpl : (backTo pos (starEach es X.env)).any (·.1) = false := by rfl) : PE3 X (.Call (.Name "str" p) (a :: es) [] pos) (eCall fStr mA) :=
  p3_callTy call_str_int fn3_str hg hm boot_str' ha (by decide) (by decide) he hpl
end
end L3
namespace L3
open PySem PySem.Spec PyProof.Rows L2
noncomputable def dKey : D → Option Key
  | .int i => some (.inl i)
  | .str x => some (.inr x)
  | _ => none
noncomputable def kvPut (kvs : List (Key × D)) (k : Key) (v : D) : List (Key × D) := if (kvs.any fun kv => decide (kv.1 = k)) = true then kvs.map (fun kv => if kv.1 = k then (kv.1, v) else kv) else kvs ++ [(k, v)]
noncomputable def dctOf (S : Sto) (n : Nat) : Option (List (Key × D)) := match S[n]? with
  | some (.dct kvs) => some kvs
  | _ => none
section
variable {K : PySem.W.Frag} {ρ : List Addr} {H : Hp} {S : Sto}
theorem Sim.dct {n : Nat} {kvs : List (Key × D)} (s : Sim K ρ S H) (h : S[n]? = some (.dct kvs)) : ∃ a vs, ρ[n]? = some a ∧ H a = some (.dK ((kvs.map (·.1)).zip vs)) ∧ RDs ρ H (kvs.map (·.2)) vs := by
  have hl : n < ρ.length := by rw [s.len]; exact (List.getElem?_eq_some_iff.mp h).1
  obtain ⟨vs, e, r⟩ := s.at' n _ _ (List.getElem?_eq_getElem hl) h
  exact ⟨_, vs, List.getElem?_eq_getElem hl, e, r⟩
end
section
variable {X : Cx} {a b e : Expr} {ma mb me : EM} {pos pos' : Pos} {k : Nat}
end
noncomputable def putD : D → D → D → Sto → Option Sto
  | .ref n, y, v, S => (dctOf S n).bind fun kvs => (dKey y).bind fun k => if kvs.length < sizeLine then some (S.set n (.dct (kvPut kvs k v))) else none
  | _, _, _, _ => none
noncomputable def gDPut (o i : EM) : GM := fun v l S => (o l S).bind fun p => (i l p.2).bind fun q => (putD p.1 q.1 v q.2).bind fun S' => some (l, S')
section
variable {X : Cx} {o i value : Expr} {mo mi mv : EM} {pos pos' : Pos} {k : Nat}
end
section
variable {X : Cx} {pos : Pos}
end
noncomputable def strsD : List D → Option (List Str)
  | [] => some []
  | .str z :: r => (strsD r).bind fun ts => some (z :: ts)
  | _ => none
noncomputable def mJoin : D → List D → Sto → Option (D × Sto)
  | .str z, [.ref n], S => (lstOf S n).bind fun xs => (strsD xs).bind fun ts => if (ts.map (·.length)).sum + ts.length * z.length ≤ 16777216 then some (.str (Str.join z ts), S) else none
  | _, _, _ => none
noncomputable def rJoin (K : PySem.W.Frag) : V → List V → Hp → VK → Prop := fun x vs H Q => ∃ z p ts, x = .str z ∧ vs = [.ref p] ∧ SqL K H p (ts.map V.str) ∧ (ts.map (·.length)).sum + ts.length * z.length ≤ 16777216 ∧ Q (.str (Str.join z ts)) H
theorem strs_are : ∀ {ts : List Str} {us : List Value}, Vals (ts.map V.str) us → StrsAre us ts
  | [], us, h => by cases h; exact .nil
  | t :: ts, us, h => by
    cases h with
    | cons r q => obtain ⟨k, rfl⟩ := r; exact .cons _ _ (strs_are q)
theorem strsD_rd {ρ : List Addr} {H : Hp} : ∀ {xs : List D} {ts : List Str} {vs : List V}, strsD xs = some ts → RDs ρ H xs vs → vs = ts.map V.str
  | [], ts, vs, h, r => by cases h; cases r; rfl
  | x :: xs, ts, vs, h, r => by
    cases r with
    | cons r1 r2 =>
      cases r1 with
      | str z =>
        obtain ⟨ts', h1, h⟩ := bnd (show (strsD xs).bind (fun ts => some (z :: ts)) = some ts from h)
        cases h
        rw [strsD_rd h1 r2]; rfl
      | _ => cases h
section
variable {X : Cx}
theorem mt_join : MtM X "str.join" (rJoin X.K) := by
  intro pins s σ H x vs v us Q I rx rv h
  obtain ⟨z, p, ts, rfl, rfl, sq, hz, q⟩ := h
  obtain ⟨t, rfl⟩ := rx
  obtain ⟨u, rfl, ru⟩ := rv.one
  cases ru
  obtain ⟨its, r, pl, _⟩ := I.list sq
  refine join_list pl.isList (strs_are (by simpa using r)) hz fun t' k => ?_
  exact ⟨.str _, H, I.tok _, ⟨t', by show Value.str (Builtin.Str.glued z ts) t' = _; rw [StrLaws.glued_eq_join]⟩, q⟩
theorem mt3_join {K : PySem.W.Frag} : Mt3 K mJoin (rJoin K) := by
  intro ρ S H x x' xs vs v S' Q sim rx r h p
  unfold mJoin at h
  split at h
  · obtain ⟨ys, h1, h⟩ := bnd h
    obtain ⟨ts, h2, h⟩ := bnd h
    obtain ⟨hz, e⟩ := ite_some h
    cases e
    obtain ⟨w, rfl, rw'⟩ := r.one
    obtain ⟨a, us, ha, sq, r2⟩ := sim.lstOf h1
    cases rx
    cases rw' with
    | ref hn =>
      rw [ha] at hn; cases hn
      have := strsD_rd h2 r2
      subst this
      exact ⟨_, _, ts, rfl, rfl, sq, hz, p ρ H _ (Ext.refl ..) sim (.str _)⟩
  · cases h
noncomputable def recvS : D → Option Unit
  | .str _ => some ()
  | _ => none
noncomputable def eMethS (f : D → List D → Sto → Option (D × Sto)) (o : EM) (as : AM) : EM := fun l S => (o l S).bind fun p => (recvS p.1).bind fun _ => (as l p.2).bind fun q => f p.1 q.1 q.2
variable {o e : Expr} {mo m : EM} {apos cpos : Pos}
theorem p3_join (ho : PE3 X o mo) (he : PE3 X e m)
    (hbase : attributeBase o "join" X.env (eval o X.env) = eval o X.env := by rfl)
    (hfew : ((backTo cpos (starEach [e] X.env)).all (fun x => !x.1) && (backToKw cpos (keywordEach [] X.env)).all (fun x => x.1.isSome)
      && decide ([e].length + ([] : List Keyword).length + (if ([] : List Keyword).isEmpty then 0 else 1) < 30)) = true := by rfl)
    (hline : (apos.endLine == cpos.line) = true := by rfl) (hs : starEach [e] X.env = (false, eval e X.env) :: starEach [] X.env := by rfl) :
    PE3 X (.Call (.Attribute o "join" apos) [e] [] cpos) (eMethS mJoin mo (aCons m aNil)) :=
  PE.imp (pe_bm PySem.F.plainAttrs_str PySem.F.slot_str_join PySem.F.type_str_join mt_join ho (a3_cons he a3_nil hs) hbase hfew hline hs rfl) fun σ H Q hx3_ => by
    obtain ⟨ρ, l, S, v, S', sim, ro, hq, p⟩ := hx3_
    obtain ⟨⟨x, S1⟩, h1, hq⟩ := bnd hq
    obtain ⟨_, h2, hq⟩ := bnd hq
    obtain ⟨⟨ys, S2⟩, h4, hq⟩ := bnd hq
    refine ⟨ρ, l, S, x, S1, sim, ro, h1, fun ρ1 H1 x' e1 s1 r1 => ⟨?_, ρ1, l, S1, ys, S2, s1, ro.mono e1, h4, fun ρ2 H2 vs e2 s2 r2 => mt3_join ρ2 S2 H2 x x' ys vs v S' Q s2 (r1.mono e2) r2 hq (p.ext (e1.trans e2))⟩⟩
    cases r1 with
    | str z => exact rfl
    | _ => cases h2
end
end L3
namespace L3
open PySem PySem.Spec PyProof.Rows L2
noncomputable def sgn (z : Str) : List D := z.cps.toList.map fun c => .str ⟨#[c]⟩
noncomputable def Its (z : Str) : It := ⟨fun i _ => i < z.cps.size, fun i H x H' => H' = H ∧ ∃ c, z.cps[i]? = some c ∧ x = .str ⟨#[c]⟩, fun i _ => z.cps.size ≤ i⟩
theorem sgn_len (z : Str) : (sgn z).length = z.cps.size := by simp [sgn]
theorem itok_str {K : PySem.W.Frag} {ρ : List Addr} {H : Hp} {z : Str} : ItOk K ρ H (itX (sgn z)) (Its z) := by
  intro i ρ' S' H' e s
  refine ⟨fun h => ?_, fun x h => ?_⟩
  · have h : (sgn z)[i]? = none := Option.some.inj h
    have := List.getElem?_eq_none_iff.mp h
    rw [sgn_len] at this
    exact this
  · have h : (sgn z)[i]? = some x := Option.some.inj h
    have hl := (List.getElem?_eq_some_iff.mp h).1
    rw [sgn_len] at hl
    refine ⟨hl, fun y H'' ⟨e1, c, e2, e3⟩ => ⟨e1, ?_⟩⟩
    subst e3
    unfold sgn at h
    rw [List.getElem?_map] at h
    have e4 : z.cps.toList[i]? = some c := by simpa using e2
    rw [e4] at h
    cases h
    exact .str _
section
variable {P : Program} {w : World} {K : PySem.W.Frag} {elts : List Expr} {z : Nat} {tp : Pos}
end
section
variable {X : Cx} {elts : List Expr} {z : Nat} {tp : Pos}
end
section
variable {X : Cx} {elts : List Expr} {z : Nat} {tp : Pos} {a : Expr} {mA : AM} {g : GM} {b : SM} {body : List Stmt} {p0 pos' pos : Pos}
end
end L3
namespace L3
open PySem PySem.Spec PyProof.Rows L2
section
variable {X : Cx} {a b : Expr} {ma mb : EM} {pos : Pos} {k : Nat}
end
end L3
namespace L3
open PySem PySem.Spec PyProof.Rows L2
noncomputable def eSlA (m : EM) (lo hi : OM) : EM := fun l S => (m l S).bind fun p => (lo l p.2).bind fun q => (hi l q.2).bind fun r => match p.1 with
  | .tup xs => some (.tup (cutD xs q.1 r.1), r.2)
  | .ref n => (lstOf r.2 n).bind fun xs => some (.ref r.2.length, r.2 ++ [.lst (cutD xs q.1 r.1)])
  | .str z => if z.length ≤ sizeLine then some (.str (Txt.slice z q.1 r.1), r.2) else none
  | _ => none
section
variable {X : Cx} {a : Expr} {ma : EM} {lo hi : Option Expr} {ml mh : OM} {p2 pos : Pos}
end
noncomputable def dPlusS : D → D → Sto → Option (D × Sto)
  | .str i, .str j, S => if i.length + j.length ≤ sizeLine then some (.str (i ++ j), S) else none
  | _, _, _ => none
noncomputable def dPlusA : D → D → Sto → Option (D × Sto) := fun x y S => match dPlusS x y S with | some v => some v | none => dPlus x y S
theorem op3_plusS {K : PySem.W.Frag} : Op3 K dPlusS (fun x y H Q => ∃ i j, x = .str i ∧ y = .str j ∧ i.length + j.length ≤ sizeLine ∧ Q (.str (i ++ j)) H) := by
  intro ρ S H x y x' y' v S' Q sim rx ry h p
  unfold dPlusS at h
  split at h
  · obtain ⟨hz, e⟩ := ite_some h
    cases e; cases rx; cases ry
    exact ⟨_, _, rfl, rfl, hz, p ρ H _ (Ext.refl ..) sim (.str _)⟩
  · cases h
theorem p3_plusA {X : Cx} {a b : Expr} {ma mb : EM} {pos : Pos} (ha : PE3 X a ma) (hb : PE3 X b mb) : PE3 X (.BinOp a .Add b pos) (eOp dPlusA ma mb) := p3_op (op_add_str.or (op_add.or ((op_catT.or op_catT0).or op_cat))) (op3_plusS.or op3_plus) ha hb
noncomputable def fIntA : FM
  | [.str z], S => (intText? z).bind fun n => if z.length ≤ 640 then some (.int n, S) else none
  | xs, S => fInt xs S
section
variable {X : Cx} {a : Expr} {es : List Expr} {mA : AM} {pos p : Pos} {K : PySem.W.Frag}
end
section
variable {X : Cx}
variable {o e f : Expr} {mo m m' : EM} {apos cpos : Pos}
end
end L3
namespace L3
open PySem PySem.Spec PyProof.Rows L2
section
variable {X : Cx}
variable {a : Expr} {es : List Expr} {mA : AM} {p pos : Pos}
end
noncomputable def IsRevT (h : Heap) (a t : Addr) (i : Int) : Prop := ∃ o, h.get? a = some o ∧ o.cls = .type "reversed" ∧ o.data = .fields #[.ref t, rawInt i]
section
variable {prog : Program} {w : World} {A : Around} {E : Value → Shared → Prop} {s : Shared}
theorem IsRevT.typeIs {a t : Addr} {i : Int} (x : IsRevT s.heap a t i) : s.TypeIs (.ref a) "reversed" := let ⟨o, ho, hc, _⟩ := x; ⟨o, ho, hc⟩
end
section
variable {P : Program} {w : World} {K : PySem.W.Frag} {tg : Expr}
end
section
variable {X : Cx} {tg : Expr}
end
section
variable {X : Cx} {tgt : Expr} {a : Expr} {mA : AM} {p0 pos' : Pos}
end
end L3
namespace L3
open PySem PySem.Spec PyProof.Rows L2
theorem rds_strs {ρ : List Addr} {H : Hp} : ∀ ts : List Str, RDs ρ H (ts.map D.str) (ts.map V.str)
  | [] => .nil
  | t :: ts => .cons (.str t) (rds_strs ts)
section
variable {X : Cx}
variable {a : Expr} {es : List Expr} {mA : AM} {pos p : Pos}
end
section
variable {X : Cx} {a b : Expr} {ma mb : EM} {pos : Pos}
end
end L3
namespace L3
open PySem PySem.Spec PyProof.Rows L2
section
variable {prog : Program} {w : World} {A : Around} {R : Result → Shared → Prop} {s : Shared}
end
end L3
namespace L3
open PySem PySem.Spec PyProof.Rows L2
section
variable {K : PySem.W.Frag} {ρ : List Addr} {H : Hp} {S : Sto}
end
end L3
namespace L3
open PySem PySem.Spec PyProof.Rows L2
section
variable {X : Cx} {tg : Expr}
end
section
variable {X : Cx} {tgt iter : Expr} {m : EM}
end
section
variable {X : Cx} {a b : Expr} {ma mb : EM} {pos : Pos} {k : Nat}
end
end L3
namespace L3
open PySem PySem.Spec PyProof.Rows L2
end L3
namespace L3
open PySem PySem.Spec PyProof.Rows L2 PySem.W
structure Tr (fs : List Addr) (e T : Addr) (h h' : Heap) : Prop where
  keep : ∀ b o, b ∉ fs → b ≠ e → b ≠ T → h.get? b = some o → h'.get? b = some o
  slot : ∀ b o, b ∈ fs → h.get? b = some o → (∀ vs, o.data ≠ .fields vs) → ∃ sl, h'.get? b = some { o with slots := sl }
section
variable {M : Model} {A : Around} {E : Value → Shared → Prop} {s : Shared} {base : Heap} {env : Env} {outer : List Env} {L e C T : Addr} {Q : Unit → Shared → Prop}
end
end L3
namespace L3
open PySem PySem.Spec PyProof.Rows L2 PySem.W
theorem ObjOk.there {P : Program} {w : World} {H : Hp} {h : Heap} {a : Addr} {o : HO} (x : ObjOk P w H h a o) : ∃ q, h.get? a = some q := by
  cases o with
  | lst xs => obtain ⟨_, _, _, _, e⟩ := x; exact ⟨_, e⟩
  | tup xs => obtain ⟨_, _, _, ob, e, _⟩ := x; exact ⟨_, e⟩
  | dK kvs => obtain ⟨_, _, _, _, o, _, _, e, _⟩ := x; exact ⟨_, e⟩
  | dT kvs => obtain ⟨_, _, _, _, o, _, _, e, _⟩ := x; exact ⟨_, e⟩
  | set S n => obtain ⟨o, _, _, _, e, _⟩ := x; exact ⟨_, e⟩
  | ins C dx fs => obtain ⟨_, _, _, e, _⟩ := x; exact ⟨_, e⟩
  | own y => obtain ⟨_, e⟩ := x; exact ⟨_, e⟩
  | xd fs => obtain ⟨_, ⟨_, _, _, e, _⟩, _⟩ := x; exact ⟨_, e⟩
  | rng lo hi => obtain ⟨_, _, _, e⟩ := x; exact ⟨_, e⟩
  | frz ob u => obtain ⟨e, _⟩ := x; exact ⟨_, e⟩
  | tbl ps => exact ⟨_, x⟩
  | met f y => exact ⟨_, x⟩
  | ext φ => obtain ⟨_, e, _⟩ := x; exact e
section
variable {P : Program} {w : World} {K : PySem.W.Frag} {mg : Str → Option Value} {base : Heap} {N : List Str} {qual : Str} {scope : Scope} {f : Addr} {cd : Value} {A : Around} {outer : List Env} {s : Shared} {H : Hp} {E : XK}
end
end L3
namespace L3
open PySem PySem.Spec PyProof.Rows L2 PySem.W
noncomputable abbrev ZM := Lo → Sto → Option (Str × Sto)
noncomputable abbrev ZF := List D → Sto → Option (Str × Sto)
noncomputable def Rz (K : PySem.W.Frag) (E : XK) (CA : Str → Addr) (r : ZM) : L2.St → Hp → Prop := fun σ H => ∃ ρ l S C S', Sim K ρ S H ∧ RO ρ H l σ ∧ r l S = some (C, S') ∧ ∀ ρ' H', Ext ρ H ρ' H' → Sim K ρ' S' H' → E (.ref (CA C)) none H'
noncomputable def zNone : ZM := fun _ _ => none
section
variable {X : Cx} {E : XK} {CA : Str → Addr} {e : Expr} {es : List Expr} {st : Stmt} {rest : List Stmt} {r q : ZM} {m : EM} {b : SM} {pos : Pos}
theorem Rz.none {K : PySem.W.Frag} {σ : L2.St} {H : Hp} (h : Rz K E CA zNone σ H) : False := by
  obtain ⟨ρ, l, S, C, S', sim, ro, hm, p⟩ := h; cases hm
end
section
variable {X : Cx} {E : XK} {CA : Str → Addr} {a : Expr} {es : List Expr} {mA : AM} {pos p : Pos} {x : Str} {k j n : Nat} {rx : ZF}
end
section
variable {P : Program} {w : World} {K : PySem.W.Frag} {mg : Str → Option Value} {base : Heap} {N : List Str} {qual : Str} {scope : Scope} {f : Addr} {cd : Value} {A : Around} {outer : List Env} {s : Shared} {H : Hp} {E : XK} {CA : Str → Addr}
end
end L3
namespace L3
open PySem PySem.Spec PyProof.Rows L2 PySem.W
section
variable {M : Model} {A : Around} {E : Value → Shared → Prop} {s : Shared} {base : Heap} {env : Env} {outer l : List Env} {L e C T : Addr} {Q : Unit → Shared → Prop}
end
section
variable {X : Cx} {pins : List (Addr × Obj)} {σ : L2.St} {H : Hp} {s : Shared} {h' : Heap} {a T : Addr} {t' : Nat}
theorem Inv.tr (I : Inv X pins σ H s) (hex : X.ex = []) (tr : Tr (frs X.stack) a T s.heap h') (na : X.s₀.heap.get? a = none) (nT : X.s₀.heap.get? T = none) (ha : H a = none) (hT : H T = none)
    (oL : X.env.locals ≠ a ∧ X.env.locals ≠ T) (oC : ∀ x c, X.env.cells.lookup x = some c → c ≠ a ∧ c ≠ T) (oP : ∀ p ∈ X.pn ++ pins, p.1 ≠ a ∧ p.1 ≠ T) : Inv X pins σ H { s with heap := h', toks := t' } := by
  have kp : ∀ b o, (∀ vs, o.data ≠ .fields vs) → b ≠ a → b ≠ T → s.heap.get? b = some o → ∃ sl, h'.get? b = some { o with slots := sl } := fun b o hn h1 h2 q => by
    by_cases hb : b ∈ frs X.stack
    · exact tr.slot b o hb q hn
    · exact ⟨o.slots, tr.keep b o hb h1 h2 q⟩
  have hne : ∀ b o, X.s₀.heap.get? b = some o → b ≠ a ∧ b ≠ T ∧ b ≠ X.env.locals := fun b o q => ⟨fun z => (by rw [z, na] at q; cases q), fun z => (by rw [z, nT] at q; cases q), Nat.ne_of_lt (Nat.lt_of_lt_of_le (Heap.lt_size q) I.ok.above)⟩
  have nex : ∀ b, b ∉ X.ex := fun b => by rw [hex]; simp
  refine ⟨I.ok, I.os, I.bare, ⟨fun b o q n hb hx => ?_, fun b o q n hb hx => ?_, I.base.free, fun b o q hx => ?_, I.base.tups, I.base.frzs, I.base.tbls⟩, ?_, fun x c e => ?_, I.free, I.freeC, fun p hp => ?_, fun b u e => ?_, I.len⟩
  · obtain ⟨h1, h2, h3⟩ := hne b o q
    exact tr.keep b o (fun z => (List.mem_cons.mp (I.stkSub b z)).elim h3 hb) h1 h2 (I.base.keep b o q n hb hx)
  · obtain ⟨h1, h2, h3⟩ := hne b o q
    obtain ⟨sl, e⟩ := I.base.slot b o q n hb hx
    obtain ⟨_, o2, ho2, hnf⟩ := I.funs.mem hb
    rw [e] at ho2; cases ho2
    obtain ⟨sl', e'⟩ := kp b _ hnf h1 h2 e
    exact ⟨sl', e'⟩
  · obtain ⟨h1, h2, h3⟩ := hne b o q
    obtain ⟨o', e⟩ := I.base.there b o q hx
    by_cases hb : b ∈ frs X.stack
    · obtain ⟨_, o2, ho2, hnf⟩ := I.stack.mem hb
      rw [e] at ho2; cases ho2
      obtain ⟨sl, e'⟩ := tr.slot b _ hb e hnf
      exact ⟨_, e'⟩
    · exact ⟨o', tr.keep b o' hb h1 h2 e⟩
  · obtain ⟨m, ⟨o, es, ep, ho, hd, hr⟩, hl⟩ := I.loc
    obtain ⟨sl, e'⟩ := kp _ o (fun vs z => by rw [hd] at z; cases z) oL.1 oL.2 ho
    refine ⟨m, ⟨_, es, ep, e', hd, hr⟩, fun i x v h1 h2 h3 => ?_⟩
    obtain ⟨u, r, lk⟩ := hl i x v h1 h2 h3
    refine ⟨u, r, ?_⟩
    rcases lk with lk | ⟨k, c, hc, oc, hoc, hdc⟩
    · exact .inl lk
    · obtain ⟨sl2, e2⟩ := kp c oc (fun vs z => by rw [hdc] at z; cases z) (oC x c hc).1 (oC x c hc).2 hoc
      exact .inr ⟨k, c, hc, _, e2, hdc⟩
  · obtain ⟨v, o, ho, hd⟩ := I.cell x c e
    obtain ⟨sl2, e2⟩ := kp c o (fun vs z => by rw [hd] at z; cases z) (oC x c e).1 (oC x c e).2 ho
    exact ⟨v, _, e2, hd⟩
  · obtain ⟨e, n, ne, nf, d⟩ := I.pin p hp
    exact ⟨tr.keep _ _ (fun z => (List.mem_cons.mp (I.stkSub _ z)).elim ne nf) (oP p hp).1 (oP p hp).2 e, n, ne, nf, d⟩
  · refine (I.hok b u e).stay (fun c v hc q => ?_) (fun _ q => q) fun _ _ q => q
    have hcn : H c ≠ none := by
      rcases hc with z | z
      · rw [z, e]; intro y; cases y
      · rw [z]; intro y; cases y
    exact tr.keep c v (fun z => hcn (I.stkFree c z)) (fun z => hcn (by rw [z]; exact ha)) (fun z => hcn (by rw [z]; exact hT)) q
end
section
variable {M : Model} {A : Around} {E : Value → Shared → Prop} {h : Heap} {g : Array GenState} {d : Drawn} {t : Nat} {os : OsState}
variable {nm q nm' q' : Str} {C N D N' : Addr} {bs bm bs' bm' : List Value} {hdct hdct' : Bool} {sn sn' : List Str} {sub sub' : List Value} {ab ab' : Bool} {col col' : Option Bool} {dd dd' : Option Addr} {k0 k1 k2 k3 k5 k0' k1' k2' k3' k5' : Option Value} {newId newId' : String}
end
end L3
namespace L3
open PySem PySem.Spec PyProof.Rows L2 PySem.W
section
variable {X : Cx} {pins : List (Addr × Obj)} {σ : L2.St} {H : Hp} {s : Shared} {a C T : Addr} {e : Value}
end
end L3
namespace L3
open PySem PySem.Spec PyProof.Rows L2 PySem.W
section
variable {X : Cx} {pins : List (Addr × Obj)} {σ : L2.St} {tS : TS} {i : Nat} {Dh : Addr} {n hx : Str} {np hpos : Pos} {b0 : Stmt} {suite : List Stmt}
end
end L3
namespace L3
open PySem PySem.Spec PyProof.Rows L2 PySem.W
section
variable {X : Cx} {E : XK} {CA : Str → Addr} {a : Expr} {es : List Expr} {mA : AM} {cpos p apos py tpos : Pos} {x y : Str} {k j n : Nat} {rx : ZF}
variable {tN tS : TS} {i : Nat} {Dh : Addr} {nm hx : Str} {np hpos : Pos} {b0 : Stmt} {suite : List Stmt}
end
section
variable {X : Cx} {E : XK} {CA : Str → Addr} {a : Expr} {es : List Expr} {mA : AM} {cpos p apos py tpos : Pos} {x y : Str} {k j n : Nat} {rx : ZF} {i : Nat} {Dh : Addr} {nm hx : Str} {np hpos : Pos} {b0 : Stmt} {suite : List Stmt} {mN mS : SM} {ok : Str → Bool}
end
end L3
namespace L3
open PySem PySem.Spec PyProof.Rows L2 PySem.W PySem.Builtin PySem.Builtin.ObjectAttr PySem.Builtin.Getset_descriptor
section
variable {prog : Program} {w : World} {A : Around} {E : Value → Shared → Prop} {h : Heap} {g : Array GenState} {d : Drawn} {t : Nat} {os : OsState} {a : Addr} {o : Obj} {K : PySem.W.Frag} {C : Addr}
end
section
variable {prog : Program} {w : World} {A : Around} {E : Value → Shared → Prop} {h : Heap} {g : Array GenState} {d : Drawn} {t : Nat} {os : OsState} {a : Addr} {o : Obj} {K : PySem.W.Frag} {C : Addr}
end
end L3
namespace L3
open PySem PySem.Spec PyProof.Rows L2 PySem.W
section
variable {X : Cx} {es : List Expr} {Cs : List Addr} {y : Str} {C : Addr} {p : Pos}
end
section
variable {X : Cx} {a : Expr} {ma : EM} {pos p tp p2 : Pos} {es : List Expr} {Cs : List Addr} {x1 : Nat} {tab : List (Str × Bool)} {y : Str} {D0 : Addr}
end
end L3
namespace L3
open PySem PySem.Spec PyProof.Rows L2
section
variable {X : Cx} {o e : Expr} {es : List Expr} {to : TE} {t : TA} {name : Str} {apos cpos : Pos} {T id : String} {r : V → List V → Hp → VK → Prop} {ty : V → Hp → Prop}
end
section
variable {X : Cx} {j : Nat}
end
section
variable {X : Cx} {j : Nat} {o e : Expr} {mo m : EM} {apos cpos : Pos}
variable {a b : Expr} {ma mb : EM} {pos : Pos}
end
end L3
namespace L3
open PySem PySem.Spec PyProof.Rows L2
section
variable {K : PySem.W.Frag} {ρ : List Addr} {H : Hp} {S : Sto}
end
noncomputable def Ro1 (ρ : List Addr) (H : Hp) (o : Option D) (o' : Option V) : Prop := (o = none → o' = none) ∧ ∀ d, o = some d → ∃ v, o' = some v ∧ RD ρ H d v
theorem Ro1.isSome {ρ : List Addr} {H : Hp} {o : Option D} {o' : Option V} (r : Ro1 ρ H o o') : o'.isSome = o.isSome := by
  cases o with
  | none => rw [r.1 rfl]; rfl
  | some d => obtain ⟨v, e, _⟩ := r.2 d rfl; rw [e]; rfl
theorem Ro1.getD {ρ : List Addr} {H : Hp} {o : Option D} {o' : Option V} (r : Ro1 ρ H o o') {z : D} {z' : V} (rz : RD ρ H z z') : RD ρ H (o.getD z) (o'.getD z') := by
  cases o with
  | none => rw [r.1 rfl]; exact rz
  | some d => obtain ⟨v, e, q⟩ := r.2 d rfl; rw [e]; exact q
section
variable {X : Cx} {a b e f o i value : Expr} {ma mb me mf mo mi mv : EM} {pos pos' apos cpos : Pos} {k : Nat}
end
section
variable {X : Cx} {pos : Pos}
end
section
variable {X : Cx} {o i value : Expr} {mo mi mv : EM} {pos pos' : Pos} {k : Nat}
end
end L3
namespace L3
open PySem PySem.Spec PyProof.Rows L2
section
variable {K : PySem.W.Frag} {ρ : List Addr} {H : Hp} {S : Sto}
theorem Sim.fnc {a : Addr} {x : Str} (s : Sim K ρ S H) (h1 : PySem.W.nsIn K mainGlobals x = some (some (.ref a))) (h2 : ∃ o, K.lookup a = some o) : Sim K (ρ ++ [a]) (S ++ [.fnc x]) H := by
  refine ⟨by simp [s.len], fun i j b x1 x2 g1 g2 g3 g4 m1 m2 => ?_, fun n b o g1 g2 => ?_⟩
  · rcases get_push g3 with g3 | ⟨e3, f3⟩
    · rcases get_push g4 with g4 | ⟨e4, f4⟩
      · have l1 := (List.getElem?_eq_some_iff.mp g3).1
        have l2 := (List.getElem?_eq_some_iff.mp g4).1
        have l := s.len
        rcases get_push g1 with g1 | ⟨q1, _⟩
        · rcases get_push g2 with g2 | ⟨q2, _⟩
          · exact s.nd i j b _ _ g1 g2 g3 g4 m1 m2
          · omega
        · omega
      · subst f4; cases m2
    · subst f3; cases m1
  · rcases get_push g1 with g1 | ⟨e1, f1⟩
    · rcases get_push g2 with g2 | ⟨e2, f2⟩
      · exact (s.at' n b o g1 g2).more ext0_push
      · have := (List.getElem?_eq_some_iff.mp g1).1; have := s.len; omega
    · subst f1
      rcases get_push g2 with g2 | ⟨e2, f2⟩
      · have := (List.getElem?_eq_some_iff.mp g2).1; have := s.len; omega
      · subst f2
        exact ⟨h1, h2⟩
end
section
variable {X : Cx} {x y : Str} {pos p : Pos} {a : Expr} {es : List Expr}
end
end L3
namespace L3
open PySem PySem.Spec PyProof.Rows L2
section
variable {k : Nat} {names : List (Str × NameKind)} {acc : List (Str × Addr)}
end
end L3
namespace L3
open PySem PySem.Spec PyProof.Rows L2
end L3
namespace SP
open PySem PySem.W PyProof.Rows PySem.Calls
section
variable {prog : Program} {w : World} {A : Around} {E : Value → Shared → Prop} {s : Shared}
end
end SP
namespace L3
open PySem PySem.Spec PyProof.Rows L2
noncomputable def VP (H : Hp) : List V → List SP.Pr → Prop := Paired fun v p => ∃ b, v = .ref b ∧ H b = some (.tup [.int p.1, .int p.2])
theorem VP.length {H : Hp} {vs : List V} {ps : List SP.Pr} (x : VP H vs ps) : vs.length = ps.length := Paired.length x
section
variable {X : Cx}
end
section
variable {X : Cx} {a : Expr} {es : List Expr} {mA : AM} {pos p : Pos}
end
end L3
namespace SP
open PySem PySem.W PyProof.Rows PySem.Calls
noncomputable def DAt (h : Heap) (d : Addr) (es : Array DictEntry) (ep : Nat) : Prop := ∃ o, h.get? d = some o ∧ o.ExactDict ∧ o.data = .dict es ep
section
variable {prog : Program} {w : World} {A : Around} {E : Value → Shared → Prop} {s : Shared} {d it : Addr} {es : Array DictEntry} {ep i : Nat}
theorem DAt.keep {h h' : Heap} (x : DAt h d es ep) (k : ∀ o, h.get? d = some o → h'.get? d = some o) : DAt h' d es ep := let ⟨o, e, r⟩ := x; ⟨o, k o e, r⟩
theorem DAt.lt {h : Heap} (x : DAt h d es ep) : d < h.objs.size := let ⟨_, e, _⟩ := x; Heap.lt_size e
theorem DAt.ty (x : DAt s.heap d es ep) : s.TypeIs (.ref d) "dict" := let ⟨o, e, c, _⟩ := x; ⟨o, e, c.1⟩
end
end SP
namespace L3
open PySem PySem.Spec PyProof.Rows L2
section
variable {X : Cx} {tg : Expr}
end
section
variable {X : Cx} {tgt iter : Expr} {m : EM}
end
section
variable {X : Cx}
end
section
variable {X : Cx} {a : Expr} {es : List Expr} {mA : AM} {pos p : Pos}
end
end L3
namespace L3
open PySem PySem.Spec PyProof.Rows L2
section
variable {X : Cx} {a : Expr}
end
section
variable {prog : Program} {w : World} {A : Around} {E : Value → Shared → Prop} {s : Shared} {c : Addr} {i j : Int} {t u : Tok}
end
section
variable {X : Cx}
end
section
variable {X : Cx} {a : Expr} {es : List Expr} {mA : AM} {pos p : Pos}
end
section
variable {prog : Program} {w : World} {K : Type} [DecidableEq K] {knd : HeapKind prog w K} {A : Around} {E : Value → Shared → Prop} {s : Shared} {d a : Addr} {k : K} {xs : List (K × Addr × Value)} {z : Value}
end
section
variable {X : Cx} {o e f : Expr} {td ty tx : TE} {apos cpos : Pos}
end
section
variable {X : Cx} {o e f : Expr} {mo me mf : EM} {apos cpos : Pos} {k : Nat}
end
end L3
namespace L3
open PySem PySem.Spec PyProof.Rows L2
section
variable {h : Heap} {p : PyData}
end
section
variable {X : Cx} {k : Nat}
variable {a b : Expr} {ma mb : EM} {pos : Pos}
end
section
variable {X : Cx} {k : Nat}
variable {o e : Expr} {mo me : EM} {apos cpos : Pos}
end
section
variable {X : Cx} {o : Expr} {mo : EM} {apos cpos : Pos}
end
section
variable {X : Cx} {pos : Pos} {ke ve : Expr}
end
section
variable {X : Cx} {pos : Pos} {ke ve : Expr} {mk mv : EM} {k : Nat}
end
section
variable {X : Cx}
end
section
variable {X : Cx} {a : Expr} {es : List Expr} {mA : AM} {pos p : Pos}
end
end L3
namespace L3
open PySem PySem.Spec PyProof.Rows L2
section
variable {elt t1 i1 t2 i2 : Expr} {ifs1 ifs2 : List Expr} {scope : Scope} {pos : Pos} {it acc : Value} {env : Env}
noncomputable abbrev two (elt t1 i1 t2 i2 : Expr) (ifs1 ifs2 : List Expr) (scope : Scope) (pos : Pos) : Expr := .ListComp elt [⟨t1, i1, ifs1, 0⟩, ⟨t2, i2, ifs2, 0⟩] scope pos
variable {prog : Program} {w : World} {A : Around} {R : Result → Shared → Prop} {s : Shared}
end
end L3
namespace L3
open PySem PySem.Spec PyProof.Rows L2
noncomputable abbrev RM := Lo → Sto → Option ((Int × Nat) × Sto)
inductive tr (K : PySem.W.Frag) (r : RM) (σ : St) (H : Hp) (R : It → Hp → Prop) : Prop
  | mk (ρ : _) (l : _) (S : _) (lo : _) (n : _) (S' : _) (_ : Sim K ρ S H) (_ : RO ρ H l σ) (_ : r l S = some ((lo, n), S')) (_ : ∀ ρ' H', Ext ρ H ρ' H' → Sim K ρ' S' H' → R (Itr lo n) H')
section
variable {X : Cx} {tgt : Expr} {mA : AM} {p0 pos' : Pos} {a a2 : Expr}
end
end L3
namespace L3
open PySem PySem.Spec PyProof.Rows L2
section
variable {prog : Program} {w : World} {A : Around} {E : Value → Shared → Prop} {s : Shared}
variable {z TI TO i1 i2 c1 c2 : Addr} {n1 n2 k : Nat} {P1 P2 : Nat → Value → Prop} {T1 T2 : Nat → Heap → Prop} {a b : Value}
end
section
variable {prog : Program} {w : World} {A : Around} {E : Value → Shared → Prop} {s : Shared}
variable {z TI TO i1 i2 c1 c2 : Addr} {n1 n2 k : Nat} {P1 P2 : Nat → Value → Prop} {T1 T2 : Nat → Heap → Prop} {a b : Value}
end
end L3
namespace L3
open PySem PySem.Spec PyProof.Rows L2
noncomputable def SqB (t : Bool) (h : Heap) (a : Addr) (vs : Array Value) : Prop := if t then h.IsTuple a vs else h.IsList a vs
theorem SqB.push {t : Bool} {h : Heap} {a : Addr} {vs : Array Value} (q : SqB t h a vs) (o : Obj) : SqB t (h.push o) a vs := by
  cases t with
  | true =>
    obtain ⟨x, e, r⟩ := (q : h.IsTuple a vs)
    exact (⟨x, Heap.get?_push_of_some _ e, r⟩ : (h.push o).IsTuple a vs)
  | false => exact Heap.IsList.push (q : h.IsList a vs) o
section
variable {prog : Program} {w : World} {A : Around} {E : Value → Shared → Prop} {s : Shared}
end
noncomputable def SqK (K : PySem.W.Frag) (t : Bool) (H : Hp) (a : Addr) : Prop := if t then ∃ xs, SqT K H a xs else ∃ xs, SqL K H a xs
theorem SqK.at {X : Cx} {pins : List (Addr × Obj)} {σ : L2.St} {H : Hp} {s : Shared} {t : Bool} {a : Addr} (I : Inv X pins σ H s) (q : SqK X.K t H a) : ∃ vs, SqB t s.heap a vs ∧ a < s.heap.objs.size := by
  cases t with
  | true =>
    obtain ⟨xs, hq⟩ := (q : ∃ xs, SqT X.K H a xs)
    obtain ⟨its, rv, pl, hz⟩ := I.tuple hq
    have pl : s.heap.IsTuple a its.toArray := pl
    obtain ⟨o, e, _⟩ := id pl
    exact ⟨_, pl, Heap.lt_size e⟩
  | false =>
    obtain ⟨xs, hq⟩ := (q : ∃ xs, SqL X.K H a xs)
    obtain ⟨its, rv, pl, hz⟩ := I.list hq
    obtain ⟨o, e, _⟩ := id pl.isList
    exact ⟨_, pl.isList, Heap.lt_size e⟩
end L3
namespace L3
open PySem PySem.Spec PyProof.Rows L2
section
variable {P : Program} {w : World} {K : PySem.W.Frag} {tg : Expr}
theorem turn_str (x : Str) (t : Tok) (T : String) (it : Addr) (hn : ["enumerate", "zip", "dict_itemiterator", "dict_reverseitemiterator", "odict_iterator", "itertools.zip_longest", "itertools.pairwise"].contains T = false)
    (W : ∀ A : Around, A.handled = none → Walks P w A it [it] [it] x.cps.size (SignAt x) (fun i h => h.IsStrIter it T x t i))
    (hs : ∀ (A : Around) (i : Nat) (s : Shared) (Q : Value → Shared → Prop) (E : Value → Shared → Prop), s.heap.IsStrIter it T x t i → Q (.ref it) s → wpAny (model P w) A (pyIter (.ref it)) Q E s) :
    Turn P w K tg (Its x) [it] it (fun i h => h.IsStrIter it T x t i ∧ i ≤ x.cps.size) where
  mem := by simp
  obj := fun i h st b hb => by
    have e : b = it := by simpa using hb
    subst e
    obtain ⟨⟨o, e, c, d⟩, _⟩ := st
    exact ⟨o, e, fun v z => by rw [d] at z; cases z⟩
  keep := fun i h h1 st k => let ⟨⟨o, q, r⟩, l⟩ := st; ⟨⟨o, k it (by simp) o q, r⟩, l⟩
  item := by
    intro X hP hw hK hc i pins s σ H E I hf st hg
    subst hP hw hK
    obtain ⟨f0, f1, f2, f3, f4, f5⟩ := hf it (by simp)
    refine (W X.A (I.ok.hd hc)).item i s _ _ hg st.1 fun v h' tk hv st' kk => ?_
    obtain ⟨c, u, hc1, rfl⟩ := hv
    have I1 : Inv X pins σ H { s with heap := h', toks := tk } := I.turned (fun b o hb e => kk b o (by simpa using hb) e) f0 f1 f3 f4 f5
    obtain ⟨o, e, c2, d⟩ := id st'
    exact ⟨_, rfl, go_of (s := { s with heap := h', toks := tk }) e c2 d hn ⟨.str ⟨#[c]⟩, H, I1, ⟨u, rfl⟩, ⟨rfl, c, hc1, rfl⟩, ⟨st', hg⟩, fun b hb => (hf b hb).1⟩⟩
  done := by
    intro X hP hw hK hc i pins s σ H E I hf st hg
    subst hP hw hK
    obtain ⟨f0, f1, f2, f3, f4, f5⟩ := hf it (by simp)
    have hge : x.cps.size ≤ i := hg
    have hi : i = x.cps.size := by have := st.2; omega
    subst hi
    exact (W X.A (I.ok.hd hc)).done s _ _ st.1 fun h' tk kk => ⟨rfl, I.turned (fun b o hb e => kk b o (by simpa using hb) e) f0 f1 f3 f4 f5⟩
  self := fun A i s Q E st h => hs A i s Q E st.1 h
end
section
variable {X : Cx} {tg l : Expr} {tl : TE} {m : EM}
noncomputable def iTxtV (tl : TE) : TI := fun σ H R => tl σ H fun x H1 => ∃ z, x = .str z ∧ R (Its z) H1
theorem pi_str (hl : PE X l tl) : PI X tg l (iTxtV tl) := by
  intro pins s σ H R I h
  refine thn (hl pins s σ H _ I h) fun v s1 ⟨x, H1, I1, r1, q1⟩ => ?_
  obtain ⟨z, rfl, q⟩ := q1
  obtain ⟨t, rfl⟩ := r1
  refine wpAny_pyIter_strU ?_
  have fp : ∀ b ∈ [s1.heap.objs.size], FpOk X pins H1 b := fun b hb => by
    have e : b = s1.heap.objs.size := by simpa using hb
    subst e
    exact I1.fpOk (Nat.le_refl _) (I1.hok.fresh (Nat.le_refl _))
  have I2 : Inv X pins σ H1 { s1 with heap := s1.heap.push { cls := .type (strIterType z), data := .fields #[.str z t, .int 0 0] } } := I1.kept (t' := s1.toks) fun b o e => Heap.get?_push_of_some _ e
  cases ha : z.cps.all (· < 128)
  · have hT : strIterType z = "str_iterator" := by simp [strIterType, ha]
    rw [hT] at I2 ⊢
    exact ⟨s1.heap.objs.size, [s1.heap.objs.size], _, _, H1, rfl, I2, turn_str z t _ _ (by decide) (fun A hA => Walks.strWide hA _ z t) (fun A i s Q E st h => wpAny_pyIter_striter_wide st h), ⟨⟨_, Heap.get?_push_size _ rfl, rfl, rfl⟩, Nat.zero_le _⟩, fp, q⟩
  · have hT : strIterType z = "str_ascii_iterator" := by simp [strIterType, ha]
    rw [hT] at I2 ⊢
    exact ⟨s1.heap.objs.size, [s1.heap.objs.size], _, _, H1, rfl, I2, turn_str z t _ _ (by decide) (fun A hA => Walks.strAscii hA _ z t) (fun A i s Q E st h => wpAny_pyIter_striter_ascii st h), ⟨⟨_, Heap.get?_push_size _ rfl, rfl, rfl⟩, Nat.zero_le _⟩, fp, q⟩
noncomputable def iTxt (e : EM) : IM := fun l S => (e l S).bind fun p => match p.1 with
  | .str z => some (itX (sgn z), z.cps.size + 1, p.2)
  | _ => none
theorem i3_txt (hl : PE3 X l m) : PI3 X tg l (iTxt m) := PI.imp (pi_str hl) fun σ H R hx1_ => by
  obtain ⟨ρ, l, S, it, k, S', sim, ro, hm, p⟩ := hx1_
  obtain ⟨⟨x, S1⟩, h1, hm⟩ := bnd hm
  refine ⟨ρ, l, S, x, S1, sim, ro, h1, fun ρ1 H1 x' e1 s1 r1 => ?_⟩
  cases r1 with
  | str z => cases hm; exact ⟨z, rfl, p ρ1 H1 _ e1 s1 itok_str⟩
  | _ => cases hm
end
noncomputable def fvD : D → Option Str
  | .str z => if z.length ≤ sizeLine then some z else none
  | .int i => if i.natAbs.log2 < 1920 then some (toString i) else none
  | _ => none
noncomputable def eFv (m : EM) : EM := fun l S => (m l S).bind fun p => (fvD p.1).bind fun z => some (.str z, p.2)
noncomputable def eJp (out : Str) : List EM → EM
  | [] => fun _ S => if out.length ≤ sizeLine then some (.str out, S) else none
  | m :: ms => fun l S => (m l S).bind fun p => match p.1 with
    | .str z => if (out ++ z).length ≤ sizeLine then eJp (out ++ z) ms l p.2 else none
    | _ => none
section
variable {X : Cx} {a b e : Expr} {m ma mb : EM} {pos : Pos} {es : List Expr} {ms : List EM} {out : Str}
noncomputable def PJ3 (X : Cx) (out : Str) (es : List Expr) (ms : List EM) : Prop :=
  ∀ (pins : List (Addr × Obj)) (s : Shared) (σ : St) (H : Hp) (Q : VK), Inv X pins σ H s → te X.K (eJp out ms) σ H Q → wpAny (model X.prog X.w) X.A (joinParts out (evalEach es X.env)) (EP X pins σ Q) X.xe s
theorem p3_fv (ha : PE3 X a m) : PE3 X (.FormattedValue a (-1) none pos) (eFv m) := by
  intro pins s σ H Q I h
  obtain ⟨ρ, l, S, v, S', sim, ro, hm, p⟩ := h
  obtain ⟨⟨x, S1⟩, h1, hm⟩ := bnd hm
  obtain ⟨z, h2, hm⟩ := bnd hm
  cases hm
  refine FormattedValue_plain (thn (ha pins s σ H (fun v' H' => (∃ z', v' = .str z' ∧ z'.length ≤ sizeLine ∧ Q (.str z') H') ∨ ∃ i, v' = .int i ∧ i.natAbs.log2 < 1920 ∧ Q (.str (toString i)) H') I ⟨ρ, l, S, x, S1, sim, ro, h1, fun ρ1 H1 x' e1 s1 r1 => ?_⟩) fun v s1 ⟨x', H1, I1, r1, q1⟩ => ?_)
  · cases r1 with
    | str y =>
      obtain ⟨hz, e⟩ := ite_some (show (if y.length ≤ sizeLine then some y else none) = some z from h2)
      subst e
      exact .inl ⟨_, rfl, hz, p ρ1 H1 _ e1 s1 (.str _)⟩
    | int i =>
      obtain ⟨hz, e⟩ := ite_some (show (if i.natAbs.log2 < 1920 then some (toString i : Str) else none) = some z from h2)
      subst e
      exact .inr ⟨_, rfl, hz, p ρ1 H1 _ e1 s1 (.str _)⟩
    | _ => cases h2
  · rcases q1 with ⟨y, rfl, hz, q⟩ | ⟨i, rfl, hz, q⟩
    · obtain ⟨t, rfl⟩ := r1
      exact formatField_str (fun t' tk => ⟨.str y, H1, I1.tok _, ⟨t', rfl⟩, q⟩) hz
    · obtain ⟨t, rfl⟩ := r1
      exact formatField_int_small hz ⟨.str (toString i), H1, I1.tok _, ⟨_, rfl⟩, q⟩
theorem j3_nil : PJ3 X out [] [] := by
  intro pins s σ H Q I h
  obtain ⟨ρ, l, S, v, S', sim, ro, hm, p⟩ := h
  obtain ⟨hz, e⟩ := ite_some (show (if out.length ≤ sizeLine then some (D.str out, S) else none) = some (v, S') from hm)
  cases e
  exact joinParts_nil ⟨.str out, H, I.tok _, ⟨_, rfl⟩, p ρ H _ (Ext.refl ..) sim (.str _)⟩ hz
theorem j3_cons (he : PE3 X e m) (hr : ∀ z, PJ3 X (out ++ z) es ms) : PJ3 X out (e :: es) (m :: ms) := by
  intro pins s σ H Q I h
  obtain ⟨ρ, l, S, v, S', sim, ro, hm, p⟩ := h
  obtain ⟨⟨x, S1⟩, h1, hm⟩ := bnd (show (m l S).bind (fun p => match p.1 with
    | .str z => if (out ++ z).length ≤ sizeLine then eJp (out ++ z) ms l p.2 else none
    | _ => none) = some (v, S') from hm)
  refine joinParts_cons (thn (he pins s σ H (fun v' H' => ∃ z', v' = .str z' ∧ (out ++ z').length ≤ sizeLine ∧ te X.K (eJp (out ++ z') ms) σ H' Q) I ⟨ρ, l, S, x, S1, sim, ro, h1, fun ρ1 H1 x' e1 s1 r1 => ?_⟩) fun v s1 ⟨x', H1, I1, r1, q1⟩ => ?_)
  · cases r1 with
    | str y =>
      dsimp only at hm
      by_cases hz : (out ++ y).length ≤ sizeLine
      · rw [if_pos hz] at hm
        exact ⟨y, rfl, hz, ρ1, l, S1, v, S', s1, ro.mono e1, hm, p.ext e1⟩
      · rw [if_neg hz] at hm; cases hm
    | _ => cases hm
  · obtain ⟨y, rfl, hz, q⟩ := q1
    obtain ⟨t, rfl⟩ := r1
    exact ⟨hz, hr y pins s1 σ H1 Q I1 q⟩
theorem p3_fstr {e1 e2 : Expr} {m1 m2 : EM} (h : PJ3 X Str.empty (e1 :: e2 :: es) (m1 :: m2 :: ms)) : PE3 X (.JoinedStr (e1 :: e2 :: es) pos) (eJp Str.empty (m1 :: m2 :: ms)) :=
  fun pins s σ H Q I q => JoinedStr_many (h pins s σ H Q I q)
theorem ite_some' {α : Type} {c : Prop} [Decidable c] {x : Option α} {b : α} (h : (if c then x else none) = some b) : c ∧ x = some b := by
  by_cases hc : c
  · rw [if_pos hc] at h; exact ⟨hc, h⟩
  · rw [if_neg hc] at h; cases h
noncomputable def eOrS (a b : EM) : EM := fun l S => (a l S).bind fun p => match p.1 with
  | .str z => if z.length ≤ sizeLine then (if z.length = 0 then b l p.2 else some (.str z, p.2)) else none
  | _ => none
theorem p3_orS {rest : List Expr} (ha : PE3 X a ma) (hb : PE3 X (.BoolOp .Or (b :: rest) pos) mb) : PE3 X (.BoolOp .Or (a :: b :: rest) pos) (eOrS ma mb) := by
  intro pins s σ H Q I h
  obtain ⟨ρ, l, S, v, S', sim, ro, hm, p⟩ := h
  obtain ⟨⟨x, S1⟩, h1, hm⟩ := bnd hm
  refine BoolOp_or (thn (ha pins s σ H (fun v' H' => ∃ z, v' = .str z ∧ z.length ≤ sizeLine ∧ if z.length = 0 then te X.K mb σ H' Q else Q (.str z) H') I ⟨ρ, l, S, x, S1, sim, ro, h1, fun ρ1 H1 x' e1 s1 r1 => ?_⟩) fun v s1 ⟨x', H1, I1, r1, q1⟩ => ?_)
  · cases r1 with
    | str y =>
      obtain ⟨hz, hm⟩ := ite_some' (show (if y.length ≤ sizeLine then (if y.length = 0 then mb l S1 else some (.str y, S1)) else none) = some (v, S') from hm)
      refine ⟨y, rfl, hz, ?_⟩
      by_cases h0 : y.length = 0
      · rw [if_pos h0] at hm ⊢
        exact ⟨ρ1, l, S1, v, S', s1, ro.mono e1, hm, p.ext e1⟩
      · rw [if_neg h0] at hm ⊢
        cases hm
        exact p ρ1 H1 _ e1 s1 (.str _)
    | _ => cases hm
  · obtain ⟨y, rfl, hz, q⟩ := q1
    obtain ⟨t, rfl⟩ := r1
    have hsz : (16777216 : Nat) = sizeLine := by decide
    refine PySem.P.truthy_str (by omega) ?_
    by_cases h0 : y.length = 0
    · rw [if_pos h0] at q
      have e : ((y.length : Int) != 0) = false := by rw [h0]; rfl
      rw [e]
      exact hb pins _ σ H1 Q (I1.tok _) q
    · rw [if_neg h0] at q
      have e : ((y.length : Int) != 0) = true := by simp; omega
      rw [e]
      exact ⟨.str y, H1, I1.tok _, ⟨t, rfl⟩, q⟩
end
end L3
namespace L3
open PySem PySem.Spec PyProof.Rows L2 PySem.Builtin PySem.Builtin.Str
noncomputable def mSplit : D → List D → Sto → Option (D × Sto)
  | .str x, [.str y], S => if y.length ≠ 0 ∧ x.length + 2 ≤ sizeLine then some (.ref S.length, S ++ [.lst ((Txt.split x y).map D.str)]) else none
  | _, _, _ => none
noncomputable def mPartn : D → List D → Sto → Option (D × Sto)
  | .str x, [.str y], S => if y.length ≠ 0 ∧ x.length ≤ sizeLine then some (.tup [.str (Txt.partition x y).1, .str (Txt.partition x y).2.1, .str (Txt.partition x y).2.2], S) else none
  | _, _, _ => none
noncomputable def rSplit : V → List V → Hp → VK → Prop := fun v vs H Q => ∃ x y, v = .str x ∧ vs = [.str y] ∧ y.length ≠ 0 ∧ x.length + 2 ≤ sizeLine ∧ ∀ a, H a = none → Q (.ref a) (upd H a (.lst ((Txt.split x y).map V.str)))
noncomputable def rPartn : V → List V → Hp → VK → Prop := fun v vs H Q => ∃ x y, v = .str x ∧ vs = [.str y] ∧ y.length ≠ 0 ∧ x.length ≤ sizeLine ∧ ∀ a, H a = none → Q (.ref a) (upd H a (.tup [.str (Txt.partition x y).1, .str (Txt.partition x y).2.1, .str (Txt.partition x y).2.2]))
theorem vals_strs : ∀ (k : Nat) (ps : List Str), Vals (ps.map V.str) (strsFrom k ps)
  | _, [] => .nil
  | k, p :: ps => .cons ⟨k, rfl⟩ (vals_strs (k + 1) ps)
section
variable {X : Cx}
theorem mt_split : MtM X "str.split" rSplit := by
  intro pins s σ H v vs v' us Q I rx rv h
  obtain ⟨x, y, rfl, rfl, hy, hx, q⟩ := h
  obtain ⟨t, rfl⟩ := rx
  obtain ⟨w, rfl, rw'⟩ := rv.one
  obtain ⟨u, rfl⟩ := rw'
  have hl := split_le x y
  have hy0 : (y.length == 0) = false := by simp [hy]
  have key : ∀ (its : List Value) (k : Nat), Vals ((Txt.split x y).map V.str) its → EP X pins σ Q (.ref s.heap.objs.size) { s with heap := s.heap.push { cls := .type "list", data := .seq its.toArray }, toks := k } := fun its k hv =>
    ⟨.ref s.heap.objs.size, _, I.lnew hv (by rw [List.length_map]; omega), rfl, q _ I.fresh⟩
  cases h1 : (decide (x.length < y.length) || decide (strKind x < strKind y))
  · cases hf : (occurrences x y 0 x.length (x.length + 1)).isEmpty
    · have e : Txt.split x y = partsBetween x (occurrences x y 0 x.length (x.length + 1)) y.length := (if_neg (ne_true_of_eq_false h1)).trans (if_neg (ne_true_of_eq_false hf))
      refine call_meets F.slot_str_split (typeIs_str _ _ _) F.entry_str_split (F.args_str_split_2 _ _) (meets_str_split_sep x y t u h1 hy0 hf (by omega) (by rw [← e]; omega)) ?_
      exact key _ _ (by rw [e]; exact vals_strs _ _)
    · have e : Txt.split x y = [x] := (if_neg (ne_true_of_eq_false h1)).trans (if_pos hf)
      refine call_meets F.slot_str_split (typeIs_str _ _ _) F.entry_str_split (F.args_str_split_2 _ _) (meets_str_split_not_found x y t u h1 hy0 hf) ?_
      exact key _ _ (by rw [e]; exact .cons ⟨t, rfl⟩ .nil)
  · have e : Txt.split x y = [x] := if_pos h1
    refine call_meets F.slot_str_split (typeIs_str _ _ _) F.entry_str_split (F.args_str_split_2 _ _) (meets_str_split_cannot_occur x y t u h1) ?_
    exact key _ _ (by rw [e]; exact .cons ⟨t, rfl⟩ .nil)
theorem mt_partn : MtM X "str.partition" rPartn := by
  intro pins s σ H v vs v' us Q I rx rv h
  obtain ⟨x, y, rfl, rfl, hy, hx, q⟩ := h
  obtain ⟨t, rfl⟩ := rx
  obtain ⟨w, rfl, rw'⟩ := rv.one
  obtain ⟨u, rfl⟩ := rw'
  have hy0 : (y.length == 0) = false := by simp [hy]
  have key : ∀ (its : List Value) (k : Nat), Vals [.str (Txt.partition x y).1, .str (Txt.partition x y).2.1, .str (Txt.partition x y).2.2] its → EP X pins σ Q (.ref s.heap.objs.size) { s with heap := s.heap.push { cls := .type "tuple", data := .seq its.toArray }, toks := k } := fun its k hv =>
    ⟨.ref s.heap.objs.size, _, I.laid (fun b o e => Heap.get?_push_of_some _ e) (Nat.le_refl _) (show ObjOk X.prog X.w _ _ _ (.tup _) from ⟨(by show 3 ≤ sizeLine; decide), its, hv, IsTup.new _ _⟩), rfl, q _ I.fresh⟩
  refine call_meets F.slot_str_partition (typeIs_str _ _ _) F.entry_str_partition (F.args_str_partition_2 _ _) (meets_str_partition x y t u hy0 hx) ?_
  unfold Txt.partition at key
  revert key
  cases occurrences x y 0 x.length 1 with
  | nil => intro key; exact key _ _ (.cons ⟨_, rfl⟩ (.cons ⟨_, rfl⟩ (.cons ⟨_, rfl⟩ .nil)))
  | cons i r => intro key; exact key _ _ (.cons ⟨_, rfl⟩ (.cons ⟨_, rfl⟩ (.cons ⟨_, rfl⟩ .nil)))
theorem mt3_split {K : PySem.W.Frag} : Mt3 K mSplit rSplit := by
  intro ρ S H x x' xs vs v S' Q sim rx r h p
  unfold mSplit at h
  split at h
  · obtain ⟨hz, e⟩ := ite_some h
    cases e
    obtain ⟨w, rfl, rw'⟩ := r.one
    cases rw'; cases rx
    exact ⟨_, _, rfl, rfl, hz.1, hz.2, new_lst sim (rds_strs _) p⟩
  · cases h
theorem mt3_partn {K : PySem.W.Frag} : Mt3 K mPartn rPartn := by
  intro ρ S H x x' xs vs v S' Q sim rx r h p
  unfold mPartn at h
  split at h
  · obtain ⟨hz, e⟩ := ite_some h
    cases e
    obtain ⟨w, rfl, rw'⟩ := r.one
    cases rw'; cases rx
    exact ⟨_, _, rfl, rfl, hz.1, hz.2, new_tup sim (.cons (.str _) (.cons (.str _) (.cons (.str _) .nil))) p⟩
  · cases h
variable {o e : Expr} {mo m : EM} {apos cpos : Pos} {name : Str} {id : String} {f : D → List D → Sto → Option (D × Sto)} {r : V → List V → Hp → VK → Prop}
theorem p3_ms (slot : Slot "str" name id) (hty : typeOf (.builtin id) = pure (.type "method_descriptor")) (hm : MtM X id r) (h3 : Mt3 X.K f r) (ho : PE3 X o mo) (he : PE3 X e m)
    (hbase : attributeBase o name X.env (eval o X.env) = eval o X.env)
    (hfew : ((backTo cpos (starEach [e] X.env)).all (fun x => !x.1) && (backToKw cpos (keywordEach [] X.env)).all (fun x => x.1.isSome)
      && decide ([e].length + ([] : List Keyword).length + (if ([] : List Keyword).isEmpty then 0 else 1) < 30)) = true)
    (hline : (apos.endLine == cpos.line) = true) (hs : starEach [e] X.env = (false, eval e X.env) :: starEach [] X.env) :
    PE3 X (.Call (.Attribute o name apos) [e] [] cpos) (eMethS f mo (aCons m aNil)) :=
  PE.imp (pe_bm PySem.F.plainAttrs_str slot hty hm ho (a3_cons he a3_nil hs) hbase hfew hline hs rfl) fun σ H Q hx3_ => by
    obtain ⟨ρ, l, S, v, S', sim, ro, hq, p⟩ := hx3_
    obtain ⟨⟨x, S1⟩, h1, hq⟩ := bnd hq
    obtain ⟨_, h2, hq⟩ := bnd hq
    obtain ⟨⟨ys, S2⟩, h4, hq⟩ := bnd hq
    refine ⟨ρ, l, S, x, S1, sim, ro, h1, fun ρ1 H1 x' e1 s1 r1 => ⟨?_, ρ1, l, S1, ys, S2, s1, ro.mono e1, h4, fun ρ2 H2 vs e2 s2 r2 => h3 ρ2 S2 H2 x x' ys vs v S' Q s2 (r1.mono e2) r2 hq (p.ext (e1.trans e2))⟩⟩
    cases r1 with
    | str z => exact rfl
    | _ => cases h2
theorem p3_split (ho : PE3 X o mo) (he : PE3 X e m) (hbase : attributeBase o "split" X.env (eval o X.env) = eval o X.env := by rfl)
    (hfew : ((backTo cpos (starEach [e] X.env)).all (fun x => !x.1) && (backToKw cpos (keywordEach [] X.env)).all (fun x => x.1.isSome)
      && decide ([e].length + ([] : List Keyword).length + (if ([] : List Keyword).isEmpty then 0 else 1) < 30)) = true := by rfl)
    (hline : (apos.endLine == cpos.line) = true := by rfl) (hs : starEach [e] X.env = (false, eval e X.env) :: starEach [] X.env := by rfl) :
    PE3 X (.Call (.Attribute o "split" apos) [e] [] cpos) (eMethS mSplit mo (aCons m aNil)) := p3_ms F.slot_str_split F.type_str_split mt_split mt3_split ho he hbase hfew hline hs
theorem p3_partn (ho : PE3 X o mo) (he : PE3 X e m) (hbase : attributeBase o "partition" X.env (eval o X.env) = eval o X.env := by rfl)
    (hfew : ((backTo cpos (starEach [e] X.env)).all (fun x => !x.1) && (backToKw cpos (keywordEach [] X.env)).all (fun x => x.1.isSome)
      && decide ([e].length + ([] : List Keyword).length + (if ([] : List Keyword).isEmpty then 0 else 1) < 30)) = true := by rfl)
    (hline : (apos.endLine == cpos.line) = true := by rfl) (hs : starEach [e] X.env = (false, eval e X.env) :: starEach [] X.env := by rfl) :
    PE3 X (.Call (.Attribute o "partition" apos) [e] [] cpos) (eMethS mPartn mo (aCons m aNil)) := p3_ms F.slot_str_partition F.type_str_partition mt_partn mt3_partn ho he hbase hfew hline hs
end
end L3
namespace TX
open PySem PySem.Builtin PySem.Builtin.Str PySem.StrLaws
structure Mk (y : Str) (d m : Nat) : Prop where
  at_ : y.cps.toList[m]? = some d
  pre : ∀ i, i < m → y.cps.toList[i]? ≠ some d
  kind : strKind y = 1
variable {x y : Str} {d m : Nat}
theorem len_eq (z : Str) : z.length = z.cps.toList.length := by simp [Str.length]
theorem at_sign (h : Mk y d m) {k : Nat} (hk : At x y x.length k) : x.cps.toList[k + m]? = some d := by
  have := hk.2
  rw [subAt_eq] at this
  have e := eq_of_beq this
  have hm := (List.getElem?_eq_some_iff.mp h.at_).1
  have h1 := h.at_
  rw [← e, List.getElem?_take_of_lt (by rw [len_eq]; exact hm), List.getElem?_drop] at h1
  exact h1
theorem at_here {a : Nat} {p r : List Nat} (h : x.cps.toList.drop a = p ++ y.cps.toList ++ r) (ha : a ≤ x.length) : At x y x.length (a + p.length) := by
  have hl := congrArg List.length h
  simp only [List.length_drop, List.length_append] at hl
  rw [← len_eq, ← len_eq] at hl
  refine ⟨by omega, ?_⟩
  rw [subAt_eq, ← List.drop_drop, h, List.append_assoc, List.drop_left, len_eq, List.take_left]
  exact beq_self_eq_true _
theorem no_at (hm : Mk y d m) {a k : Nat} {p r : List Nat} (h : x.cps.toList.drop a = p ++ y.cps.toList ++ r) (hf : d ∉ p) (h1 : a ≤ k) (h2 : k < a + p.length) : ¬ At x y x.length k := by
  intro hA
  have e := at_sign hm hA
  have e2 : (x.cps.toList.drop a)[k - a + m]? = some d := by rw [List.getElem?_drop]; rw [show a + (k - a + m) = k + m by omega]; exact e
  have hmy := (List.getElem?_eq_some_iff.mp hm.at_).1
  rw [h, List.append_assoc] at e2
  by_cases hlt : k - a + m < p.length
  · rw [List.getElem?_append_left hlt] at e2
    exact hf (List.mem_of_getElem? e2)
  · rw [List.getElem?_append_right (by omega), List.getElem?_append_left (by omega)] at e2
    exact hm.pre _ (by omega) e2
theorem no_at_last (hm : Mk y d m) {a k : Nat} {p : List Nat} (h : x.cps.toList.drop a = p) (hf : d ∉ p) (h1 : a ≤ k) : ¬ At x y x.length k := by
  intro hA
  have e := at_sign hm hA
  have e2 : (x.cps.toList.drop a)[k - a + m]? = some d := by rw [List.getElem?_drop]; rw [show a + (k - a + m) = k + m by omega]; exact e
  rw [h] at e2
  exact hf (List.mem_of_getElem? e2)
theorem join_cons (p q : Str) (r : List Str) : (Str.join y (p :: q :: r)).cps.toList = p.cps.toList ++ y.cps.toList ++ (Str.join y (q :: r)).cps.toList := by
  show (p ++ y ++ Str.join y (q :: r)).cps.toList = _
  simp only [Str.cps_append, Array.toList_append]
theorem str_ext {a b : Str} (h : a.cps.toList = b.cps.toList) : a = b := Str.ext' (Array.toList_inj.mp h)
theorem parts_eq (hm : Mk y d m) : ∀ (ps : List Str) (a f : Nat) (cuts : List Nat), ps ≠ [] → (∀ p ∈ ps, d ∉ p.cps.toList) → ChainG x y x.length a cuts f → (∀ k, f ≤ k → ¬ At x y x.length k) → a ≤ x.length →
    x.cps.toList.drop a = (Str.join y ps).cps.toList → partsFrom x y.length a cuts = ps
  | [], _, _, _, h, _, _, _, _, _ => absurd rfl h
  | [p], a, f, cuts, _, hf, hc, hn, ha, h => by
    have hp : d ∉ p.cps.toList := hf p List.mem_cons_self
    cases cuts with
    | nil =>
      show [strSub x a x.length] = [p]
      refine congrArg (fun z => [z]) (str_ext ?_)
      rw [strSub_toList, List.take_of_length_le (by rw [List.length_drop, ← len_eq]; omega)]
      exact h
    | cons c r => exact absurd hc.2.1 (no_at_last hm (p := p.cps.toList) h hp hc.1)
  | p :: q :: r, a, f, cuts, _, hf, hc, hn, ha, h => by
    have hp : d ∉ p.cps.toList := hf p List.mem_cons_self
    rw [join_cons] at h
    have hA := at_here h ha
    cases cuts with
    | nil =>
      have e : f = a := hc
      exact absurd hA (hn _ (by omega))
    | cons c cs =>
      have e : c = a + p.cps.toList.length := by
        have h1 : c ≤ a + p.cps.toList.length := Nat.le_of_not_lt fun z => hc.2.2.1 _ (by omega) z hA
        by_cases h2 : c < a + p.cps.toList.length
        · exact absurd hc.2.1 (no_at hm h hp hc.1 h2)
        · omega
      subst e
      show strSub x a _ :: partsFrom x y.length _ cs = _
      have hA1 := hA.1
      have hd : x.cps.toList.drop (a + p.cps.toList.length + y.length) = (Str.join y (q :: r)).cps.toList := by
        rw [← List.drop_drop, ← List.drop_drop, h, List.append_assoc, List.drop_left, len_eq, List.drop_left]
      rw [parts_eq hm (q :: r) _ f cs (by simp) (fun z hz => hf z (List.mem_cons_of_mem _ hz)) hc.2.2.2 hn hA1 hd]
      refine congrArg (fun z => z :: q :: r) (str_ext ?_)
      rw [strSub_toList, h, List.append_assoc, Nat.add_sub_cancel_left, List.take_left]
theorem join_long (p q : Str) (r : List Str) : y.length ≤ (Str.join y (p :: q :: r)).length := by
  rw [len_eq, len_eq, join_cons]
  simp only [List.length_append]; omega
theorem split_join (hm : Mk y d m) (ps : List Str) (hne : ps ≠ []) (hf : ∀ p ∈ ps, d ∉ p.cps.toList) : Txt.split (Str.join y ps) y = ps := by
  have hy : 1 ≤ y.length := by
    have := (List.getElem?_eq_some_iff.mp hm.at_).1
    rw [len_eq]; omega
  obtain ⟨f, hG, hn⟩ := occ_tight (Str.join y ps) y hy
  have key := parts_eq hm ps 0 f _ hne hf hG hn (Nat.zero_le _) rfl
  unfold Txt.split
  split
  · rename_i hc
    rw [Bool.or_eq_true, decide_eq_true_eq, decide_eq_true_eq, hm.kind] at hc
    have hc : (Str.join y ps).length < y.length := hc.resolve_right (by
      intro z
      have : 1 ≤ strKind (Str.join y ps) := by unfold Builtin.Str.strKind; split; decide; split <;> decide
      omega)
    match ps, hne, hc with
    | [p], _, _ => rfl
    | p :: q :: r, _, hc => exact absurd (join_long (y := y) p q r) (by omega)
  · split
    · rename_i he
      rw [List.isEmpty_iff.mp he] at key
      have key : [strSub (Str.join y ps) 0 (Str.join y ps).length] = ps := key
      rw [sub_whole] at key
      exact key
    · rw [partsBetween_eq]; exact key
theorem partn (hm : Mk y d m) (p r : Str) (hf : d ∉ p.cps.toList) : Txt.partition (p ++ y ++ r) y = (p, y, r) := by
  have h : (p ++ y ++ r).cps.toList.drop 0 = p.cps.toList ++ y.cps.toList ++ r.cps.toList := by simp only [Str.cps_append, Array.toList_append, List.drop_zero]
  have hA := at_here h (Nat.zero_le _)
  rw [Nat.zero_add] at hA
  unfold Txt.partition
  rcases occ_head (p ++ y ++ r) y 1 (Nat.le_refl 1) with ⟨_, hn⟩ | ⟨i, q, h0, hi, hn⟩
  · exact absurd hA (hn _)
  · rw [h0]
    have e : i = p.cps.toList.length := by
      have h1 : i ≤ p.cps.toList.length := Nat.le_of_not_lt fun z => hn _ z hA
      by_cases h2 : i < p.cps.toList.length
      · exact absurd hi (no_at hm h hf (Nat.zero_le _) (by omega))
      · omega
    subst e
    rw [List.drop_zero] at h
    have e1 : strSub (p ++ y ++ r) 0 p.cps.toList.length = p := str_ext (by rw [strSub_toList, List.drop_zero, h, List.append_assoc, Nat.sub_zero, List.take_left])
    have e2 : strSub (p ++ y ++ r) (p.cps.toList.length + y.length) (p ++ y ++ r).length = r := str_ext (by
      rw [strSub_toList, List.take_of_length_le (by rw [List.length_drop, ← len_eq]; omega), ← List.drop_drop, h, List.append_assoc, List.drop_left, len_eq, List.drop_left])
    dsimp only
    rw [e1, e2]
theorem mem_join {c : Nat} : ∀ (ps : List Str), c ∈ (Str.join y ps).cps.toList → c ∈ y.cps.toList ∨ ∃ p ∈ ps, c ∈ p.cps.toList
  | [], h => by cases h
  | [p], h => .inr ⟨p, List.mem_cons_self, h⟩
  | p :: q :: r, h => by
    rw [join_cons] at h
    rcases List.mem_append.mp h with h | h
    · rcases List.mem_append.mp h with h | h
      · exact .inr ⟨p, List.mem_cons_self, h⟩
      · exact .inl h
    · rcases mem_join (q :: r) h with h | ⟨p', hp, h⟩
      · exact .inl h
      · exact .inr ⟨p', List.mem_cons_of_mem _ hp, h⟩
end TX
namespace L3
open PySem
theorem ex_some {α : Type} {x : α} {p : α → Prop} : (∃ d, (some (some x) : Option (Option α)) = some (some d) ∧ p d) = p x := by
  apply propext; constructor
  · rintro ⟨d, h, q⟩; cases h; exact q
  · exact fun q => ⟨x, rfl, q⟩
theorem ex_some1 {α : Type} {x : α} {p : α → Prop} : (∃ d, (some x : Option α) = some d ∧ p d) = p x := by
  apply propext; constructor
  · rintro ⟨d, h, q⟩; cases h; exact q
  · exact fun q => ⟨x, rfl, q⟩
theorem ex_bl {b : Bool} {p : Bool → Prop} : (∃ k, D.bl b = D.bl k ∧ p k) = p b := by
  apply propext; constructor
  · rintro ⟨d, h, q⟩; cases h; exact q
  · exact fun q => ⟨b, rfl, q⟩
theorem ex_int {b : Int} {p : Int → Prop} : (∃ k, ([D.int b] : List D) = [D.int k] ∧ p k) = p b := by
  apply propext; constructor
  · rintro ⟨d, h, q⟩; cases h; exact q
  · exact fun q => ⟨b, rfl, q⟩
theorem at2_0 {α : Type} {x y : α} : L2.atI [x, y] 0 = some x := rfl
theorem at2_1 {α : Type} {x y : α} : L2.atI [x, y] 1 = some y := rfl
theorem at3_0 {α : Type} {x y z : α} : L2.atI [x, y, z] 0 = some x := rfl
theorem at3_1 {α : Type} {x y z : α} : L2.atI [x, y, z] 1 = some y := rfl
theorem at3_2 {α : Type} {x y z : α} : L2.atI [x, y, z] 2 = some z := rfl
theorem lstOf_last {S : Sto} {xs : List D} : lstOf (S ++ [.lst xs]) S.length = some xs := by unfold lstOf; rw [get_self]
theorem atI_in {α : Type} (xs : List α) (i : Int) (h0 : 0 ≤ i) (h1 : i < xs.length) : ∃ x, L2.atI xs i = some x ∧ x ∈ xs := by
  have hl : i.toNat < xs.length := by omega
  refine ⟨xs[i.toNat], ?_, List.getElem_mem hl⟩
  unfold L2.atI L2.ixN
  rw [if_pos h0, if_pos h1]
  simp [hl]
theorem atI_get {α : Type} {xs : List α} {i : Nat} {x : α} (h : xs[i]? = some x) : L2.atI xs (i : Int) = some x := by
  have hl := (List.getElem?_eq_some_iff.mp h).1
  unfold L2.atI L2.ixN
  rw [if_pos (by omega), if_pos (by omega)]
  simpa using h
section
variable {S : Sto} {Q : D → Sto → Prop} {l : Lo} {QG : Lo → Sto → Prop}
theorem wo_times {i j : Int} : Wo (dTimes (.int i) (.int j) S) Q = (((-(2 ^ 64) < i ∧ i < 2 ^ 64) ∨ (-(2 ^ 64) < j ∧ j < 2 ^ 64)) ∧ Q (.int (i * j)) S) := wo_ite
theorem wo_none : Wo none Q = False := by unfold Wo; simp
theorem wo_ixAT {xs : List D} {i : Int} : Wo (dIxA (.tup xs) (.int i) S) Q = ∃ v, L2.atI xs i = some v ∧ Q v S := by
  have e : dIxA (.tup xs) (.int i) S = dIx (.tup xs) (.int i) S := by
    unfold dIxA
    cases h : dIx (.tup xs) (.int i) S with
    | some v => rfl
    | none => rfl
  rw [e, wo_ixT]
theorem wo_ixAL {k : Nat} {i : Int} : Wo (dIxA (.ref k) (.int i) S) Q = ∃ xs, lstOf S k = some xs ∧ ∃ v, L2.atI xs i = some v ∧ Q v S := by
  have e : dIxA (.ref k) (.int i) S = dIx (.ref k) (.int i) S := by
    unfold dIxA
    cases h : dIx (.ref k) (.int i) S with
    | some v => rfl
    | none => rfl
  rw [e, wo_ixL]
theorem wo_ixAS {z : Str} {i : Int} : Wo (dIxA (.str z) (.int i) S) Q = (z.length ≤ sizeLine ∧ ∃ c, L2.atI z.cps.toList i = some c ∧ Q (.str ⟨#[c]⟩) S) := by
  show Wo (if z.length ≤ sizeLine then (L2.atI z.cps.toList i).bind fun c => some (.str ⟨#[c]⟩, S) else none) Q = _
  by_cases h : z.length ≤ sizeLine
  · rw [if_pos h, wo_bind]; simp only [wo_some, h, true_and]
  · rw [if_neg h, wo_none]; simp [h]
theorem wo_lenAL {k : Nat} : Wo (fLenA [.ref k] S) Q = ∃ xs, lstOf S k = some xs ∧ Q (.int xs.length) S := wo_lenL
theorem wo_lenAT {xs : List D} : Wo (fLenA [.tup xs] S) Q = Q (.int xs.length) S := wo_lenT
theorem wo_lenAS {z : Str} : Wo (fLenA [.str z] S) Q = (z.length ≤ sizeLine ∧ Q (.int z.length) S) := wo_ite
theorem wo_str {i : Int} : Wo (fStr [.int i] S) Q = (i.natAbs.log2 < 1920 ∧ Q (.str (toString i)) S) := wo_ite
theorem wo_eqSt {i j : Str} : Wo (dEq (.str i) (.str j) S) Q = Q (.bl (decide (i = j))) S := wo_some
theorem wo_neB {i j : Bool} : Wo (dNe (.bl i) (.bl j) S) Q = Q (.bl (!decide (i = j))) S := wo_some
theorem wo_neI {i j : Int} : Wo (dNe (.int i) (.int j) S) Q = Q (.bl (!decide (i = j))) S := wo_some
theorem wo_allL {n : Nat} : Wo (fAll [.ref n] S) Q = ∃ xs, lstOf S n = some xs ∧ xs.all isBlD = true ∧ Q (.bl (xs.all isT)) S := by
  show Wo ((lstOf S n).bind fun xs => if xs.all isBlD = true then some (.bl (xs.all isT), S) else none) Q = _
  rw [wo_bind]; simp only [wo_ite]
theorem we_methS {f : D → List D → Sto → Option (D × Sto)} {a : EM} {r : AM} : We (eMethS f a r) l S Q = We a l S fun x S1 => recvS x = some () ∧ Wa r l S1 fun ys S2 => Wo (f x ys S2) Q := by
  apply propext
  constructor
  · rintro ⟨v, S', h, q⟩
    obtain ⟨⟨x, S1⟩, h1, h⟩ := bnd h
    obtain ⟨_, h2, h⟩ := bnd h
    obtain ⟨⟨y, S2⟩, h3, h⟩ := bnd h
    exact ⟨x, S1, h1, h2, y, S2, h3, v, S', h, q⟩
  · rintro ⟨x, S1, h1, h2, y, S2, h3, v, S', h, q⟩
    refine ⟨v, S', ?_, q⟩
    unfold eMethS; rw [h1]; show (recvS x).bind _ = _; rw [h2]; show (r l S1).bind _ = _; rw [h3]; exact h
theorem wo_join {z : Str} {n : Nat} : Wo (mJoin (.str z) [.ref n] S) Q = ∃ xs, lstOf S n = some xs ∧ ∃ ts, strsD xs = some ts ∧ (ts.map (·.length)).sum + ts.length * z.length ≤ 16777216 ∧ Q (.str (Str.join z ts)) S := by
  show Wo ((lstOf S n).bind fun xs => (strsD xs).bind fun ts => if (ts.map (·.length)).sum + ts.length * z.length ≤ 16777216 then some (.str (Str.join z ts), S) else none) Q = _
  rw [wo_bind]; simp only [wo_bind, wo_ite]
theorem wg_dput {o i : EM} {v : D} : Wg (gDPut o i v l S) QG = We o l S fun x S1 => We i l S1 fun y S2 => ∃ S', putD x y v S2 = some S' ∧ QG l S' := by
  apply propext
  constructor
  · rintro ⟨l', S', h, q⟩
    obtain ⟨⟨x, S1⟩, h1, h⟩ := bnd h
    obtain ⟨⟨y, S2⟩, h2, h⟩ := bnd h
    obtain ⟨S3, h3, h⟩ := bnd h
    cases h
    exact ⟨x, S1, h1, y, S2, h2, _, h3, q⟩
  · rintro ⟨x, S1, h1, y, S2, h2, S3, h3, q⟩
    refine ⟨l, S3, ?_, q⟩
    unfold gDPut; rw [h1]; show (i l S1).bind _ = _; rw [h2]; show (putD x y v S2).bind _ = _; rw [h3]; rfl
theorem wo_isI_bl {U : String} {b : Bool} : Wo (fIsI U (.bl b) S) Q = Q (.bl (isI "bool" U)) S := wo_some
theorem wo_isI_int {U : String} {b : Int} : Wo (fIsI U (.int b) S) Q = Q (.bl (isI "int" U)) S := wo_some
theorem wo_isI_str {U : String} {b : Str} : Wo (fIsI U (.str b) S) Q = Q (.bl (isI "str" U)) S := wo_some
theorem wo_isI_tup {U : String} {b : List D} : Wo (fIsI U (.tup b) S) Q = Q (.bl (isI "tuple" U)) S := wo_some
theorem wo_isI_non {U : String} : Wo (fIsI U .non S) Q = Q (.bl (isI "NoneType" U)) S := wo_some
theorem isI_same {U : String} : isI U U = true := by unfold isI; simp
end
noncomputable def Gr (S0 S : Sto) : Prop := ∃ ex, S = S0 ++ ex
theorem Gr.refl (S : Sto) : Gr S S := ⟨[], by rw [List.append_nil]⟩
theorem Gr.trans {A B C : Sto} (h : Gr A B) (g : Gr B C) : Gr A C := by obtain ⟨x, rfl⟩ := h; obtain ⟨y, rfl⟩ := g; exact ⟨x ++ y, by rw [List.append_assoc]⟩
theorem Gr.push {A B : Sto} (h : Gr A B) (o : Ob) : Gr A (B ++ [o]) := h.trans ⟨[o], rfl⟩
theorem Gr.get {A B : Sto} {n : Nat} {o : Ob} (h : Gr A B) (e : A[n]? = some o) : B[n]? = some o := by
  obtain ⟨x, rfl⟩ := h
  rw [List.getElem?_append_left (List.getElem?_eq_some_iff.mp e).1]; exact e
theorem Gr.lst {A B : Sto} {n : Nat} {xs : List D} (h : Gr A B) (e : lstOf A n = some xs) : lstOf B n = some xs := by
  unfold lstOf at e ⊢
  cases q : A[n]? with
  | none => rw [q] at e; cases e
  | some o => rw [h.get q]; rw [q] at e; exact e
section
variable {it : ItM} {im : IM} {ixs : List (Option Nat)} {g : GM} {t : TM} {e : EM} {l : Lo} {S S1 : Sto} {Q : D → Sto → Prop} {k : Nat}
theorem compG_inv (xs : List D) (R : Nat → List D → Lo → Sto → Prop) (hit : ∀ i acc l S, R i acc l S → it i S = some xs[i]?)
    (step : ∀ (i : Nat) x acc l S, xs[i]? = some x → R i acc l S → Wg (g x l S) fun l1 S1 => Wt t l1 S1 fun b S2 => if b = true then We e l1 S2 fun v S3 => R (i + 1) (acc ++ [v]) l1 S3 else R (i + 1) acc l1 S2) :
    ∀ (n i : Nat) (acc : List D) (l : Lo) (S : Sto), n + i = xs.length → R i acc l S → ∃ rest S' l', compG it g t e (n + 1) i l S = some (rest, S') ∧ R xs.length (acc ++ rest) l' S'
  | 0, i, acc, l, S, hn, h => by
    have hi : i = xs.length := by omega
    have e0 := hit i acc l S h
    rw [List.getElem?_eq_none_iff.mpr (by omega)] at e0
    refine ⟨[], S, l, ?_, by rw [List.append_nil, ← hi]; exact h⟩
    unfold compG; rw [e0]; rfl
  | n + 1, i, acc, l, S, hn, h => by
    have hi : i < xs.length := by omega
    have e0 := hit i acc l S h
    rw [List.getElem?_eq_getElem hi] at e0
    obtain ⟨l1, S1, e1, b, S2, e2, q⟩ := step i _ acc l S (List.getElem?_eq_getElem hi) h
    cases b with
    | true =>
      obtain ⟨v, S3, e3, q⟩ := q
      obtain ⟨rest, S', l', e4, q⟩ := compG_inv xs R hit step n (i + 1) (acc ++ [v]) l1 S3 (by omega) q
      refine ⟨v :: rest, S', l', ?_, by rw [List.append_assoc] at q; exact q⟩
      unfold compG; rw [e0]; show (g _ l S).bind _ = _; rw [e1]; show (t l1 S1).bind _ = _; rw [e2]
      show (e l1 S2).bind _ = _; rw [e3]; show (compG it g t e (n + 1) (i + 1) l1 S3).bind _ = _; rw [e4]; rfl
    | false =>
      obtain ⟨rest, S', l', e4, q⟩ := compG_inv xs R hit step n (i + 1) acc l1 S2 (by omega) q
      refine ⟨rest, S', l', ?_, q⟩
      unfold compG; rw [e0]; show (g _ l S).bind _ = _; rw [e1]; show (t l1 S1).bind _ = _; rw [e2]
      exact e4
theorem we_comp (xs : List D) (R : Nat → List D → Lo → Sto → Prop) (him : im l S = some (it, xs.length + 1, S1)) (h0 : R 0 [] (srcL ixs l) S1) (hit : ∀ i acc l S, R i acc l S → it i S = some xs[i]?)
    (step : ∀ (i : Nat) x acc l S, xs[i]? = some x → R i acc l S → Wg (g x l S) fun l1 S1 => Wt t l1 S1 fun b S2 => if b = true then We e l1 S2 fun v S3 => R (i + 1) (acc ++ [v]) l1 S3 else R (i + 1) acc l1 S2)
    (fin : ∀ acc l' S', R xs.length acc l' S' → acc.length ≤ sizeLine ∧ Q (.ref S'.length) (S' ++ [.lst acc])) : We (eComp im ixs g t e) l S Q := by
  obtain ⟨rest, S', l', h1, h2⟩ := compG_inv (it := it) (g := g) (t := t) (e := e) xs R hit step xs.length 0 [] (srcL ixs l) S1 rfl h0
  obtain ⟨hz, q⟩ := fin rest l' S' h2
  refine ⟨_, _, ?_, q⟩
  unfold eComp; rw [him]; show (compG it g t e (xs.length + 1) 0 (srcL ixs l) S1).bind _ = _; rw [h1]; show (if _ then _ else _) = _; rw [if_pos hz]
theorem we_compV (xs : List D) (V : D → Prop) (P : Nat → Sto → Prop) (L : Lo → Prop) (him : im l S = some (it, xs.length + 1, S1)) (h0 : P 0 S1) (l0 : L (srcL ixs l)) (hit : ∀ i S, P i S → it i S = some xs[i]?) (hz : xs.length ≤ sizeLine)
    (step : ∀ (i : Nat) x l S, xs[i]? = some x → L l → P i S → Wg (g x l S) fun l1 S2 => L l1 ∧ We e l1 S2 fun v S3 => V v ∧ P (i + 1) S3)
    (fin : ∀ vs S', vs.length = xs.length → (∀ v ∈ vs, V v) → P xs.length S' → Q (.ref S'.length) (S' ++ [.lst vs])) : We (eComp im ixs g tTrue e) l S Q := by
  refine we_comp xs (fun i acc l S => acc.length = i ∧ (∀ v ∈ acc, V v) ∧ L l ∧ P i S) him ⟨rfl, (fun v hv => by cases hv), l0, h0⟩ (fun i acc l S h => hit i S h.2.2.2) ?_ ?_
  · rintro i x acc l S hx ⟨hl, hv, hL, hp⟩
    obtain ⟨l1, S2, e1, q1, v, S3, e2, hv2, p3⟩ := step i x l S hx hL hp
    refine ⟨l1, S2, e1, ?_⟩
    dsimp only
    rw [wt_true, if_pos rfl]
    refine ⟨v, S3, e2, by simp [hl], fun u hu => ?_, q1, p3⟩
    rcases List.mem_append.mp hu with hu | hu
    · exact hv u hu
    · rw [List.mem_singleton.mp hu]; exact hv2
  · rintro acc l' S' ⟨hl, hv, hL, hp⟩
    exact ⟨by rw [hl]; exact hz, fin acc S' hl hv hp⟩
end
theorem rng_ok {as : AM} {l : Lo} {S S1 : Sto} {j : Int} (h : as l S = some ([.int j], S1)) (hz : -(2 ^ 62) ≤ j ∧ j < 2 ^ 62) : rng1 as l S = some ((0, j.toNat), S1) := by
  unfold rng1; rw [h]; simp only [Option.bind_some]; rw [if_pos hz]
theorem rng_im {as : AM} {l : Lo} {S S1 : Sto} {n : Nat} (h : as l S = some ([.int (n : Int)], S1)) (hn : n < 1000000000) : iRng (rng1 as) l S = some (itX (rngD 0 n), (rngD 0 n).length + 1, S1) := by
  have := rng_ok h ⟨by omega, by omega⟩
  unfold iRng; rw [this]; simp only [Option.bind_some, Int.toNat_natCast, rngD_len]
theorem valT_im {e : EM} {l : Lo} {S S1 : Sto} {xs : List D} (h : e l S = some (.tup xs, S1)) : iVal e l S = some (itX xs, xs.length + 1, S1) := by
  unfold iVal; rw [h]; rfl
theorem valL_im {e : EM} {l : Lo} {S S1 : Sto} {n : Nat} {xs : List D} (h : e l S = some (.ref n, S1)) (hn : lstOf S1 n = some xs) : iVal e l S = some (itL n, xs.length + 1, S1) := by
  unfold iVal; rw [h]; show (lstOf S1 n).bind _ = _; rw [hn]; rfl
theorem itL_at {n i : Nat} {S : Sto} {xs : List D} (hn : lstOf S n = some xs) : itL n i S = some xs[i]? := by unfold itL; rw [hn]; rfl
section
variable {g : GM} {b : SM}
theorem forX_out (P : Nat → Lo → Sto → Prop) (O : D → Sto → Prop) : ∀ (xs : List D) (k : Nat) (l : Lo) (S : Sto), P k l S →
    (∀ (i : Nat) x l S, xs[i]? = some x → P (k + i) l S → Wg (g x l S) fun l1 S1 => Ws b l1 S1 fun f l2 S2 => ((f = .nx ∨ f = .ct) ∧ P (k + i + 1) l2 S2) ∨ ∃ d, f = .rt d ∧ O d S2) →
    Wr (forX g b xs l S) fun f l' S' => (f = .nx ∧ P (k + xs.length) l' S') ∨ ∃ d, f = .rt d ∧ O d S'
  | [], k, l, S, h0, _ => ⟨_, _, _, rfl, .inl ⟨rfl, h0⟩⟩
  | x :: xs, k, l, S, h0, hs => by
    obtain ⟨l1, S1, e1, f, l2, S2, e2, q⟩ := hs 0 x l S rfl h0
    rcases q with ⟨hf, h1⟩ | ⟨d, rfl, hd⟩
    · have ih := forX_out P O xs (k + 1) l2 S2 h1 fun i y l S hy hp => by
        have := hs (i + 1) y l S (by simpa using hy) (by rw [show k + (i + 1) = k + 1 + i by omega]; exact hp)
        rw [show k + (i + 1) + 1 = k + 1 + i + 1 by omega] at this
        exact this
      obtain ⟨f', l', S', e3, q1⟩ := ih
      refine ⟨f', l', S', ?_, by rw [List.length_cons, show k + (xs.length + 1) = k + 1 + xs.length by omega]; exact q1⟩
      unfold forX
      rw [e1]; show (b l1 S1).bind _ = _; rw [e2]
      rcases hf with rfl | rfl <;> exact e3
    · refine ⟨_, l2, S2, ?_, .inr ⟨d, rfl, hd⟩⟩
      unfold forX
      rw [e1]; show (b l1 S1).bind _ = _; rw [e2]; rfl
theorem ws_rng (P : Nat → Lo → Sto → Prop) (O : D → Sto → Prop) {as : AM} {l : Lo} {S S1 : Sto} {n : Nat} {QS : Fl → Lo → Sto → Prop} (h : as l S = some ([.int (n : Int)], S1)) (hn : n < 1000000000) (h0 : P 0 l S1)
    (step : ∀ (i : Nat) l S, i < n → P i l S → Wg (g (.int i) l S) fun l1 S1 => Ws b l1 S1 fun f l2 S2 => ((f = .nx ∨ f = .ct) ∧ P (i + 1) l2 S2) ∨ ∃ d, f = .rt d ∧ O d S2)
    (fin : ∀ l' S', P n l' S' → QS .nx l' S') (out : ∀ d l' S', O d S' → QS (.rt d) l' S') : Ws (sForR (rng1 as) g b) l S QS := by
  rw [ws_forR]
  refine ⟨_, _, h, (n : Int), rfl, ⟨by omega, by omega⟩, ?_⟩
  rw [Int.toNat_natCast]
  refine (forX_out P O (rngD 0 n) 0 l S1 h0 ?_).mono ?_
  · intro i x l S hx hp
    obtain ⟨hi, rfl⟩ := rngD_get hx
    rw [Nat.zero_add] at hp
    have := step i l S hi hp
    rw [Int.zero_add, Nat.zero_add]
    exact this
  · rintro f l' S' (⟨rfl, hp⟩ | ⟨d, rfl, hd⟩)
    · rw [rngD_len, Nat.zero_add] at hp; exact fin l' S' hp
    · exact out d l' S' hd
end
end L3
namespace L3
open PySem
section
variable {S : Sto} {Q : D → Sto → Prop} {l : Lo}
theorem wo_plusAI {i j : Int} : Wo (dPlusA (.int i) (.int j) S) Q = Q (.int (i + j)) S := wo_some
theorem wo_plusAS {i j : Str} : Wo (dPlusA (.str i) (.str j) S) Q = (i.length + j.length ≤ sizeLine ∧ Q (.str (i ++ j)) S) := by
  by_cases h : i.length + j.length ≤ sizeLine
  · have : dPlusA (.str i) (.str j) S = some (.str (i ++ j), S) := by unfold dPlusA dPlusS; simp only [h, if_true]
    rw [this, wo_some]; simp [h]
  · have : dPlusA (.str i) (.str j) S = none := by unfold dPlusA dPlusS; simp only [h, if_false]; rfl
    rw [this, wo_none]; simp [h]
theorem wo_plusAT {xs ys : List D} : Wo (dPlusA (.tup xs) (.tup ys) S) Q = (xs.length + ys.length ≤ sizeLine ∧ Q (.tup (xs ++ ys)) S) := wo_ite
theorem wo_intAB {k : Bool} : Wo (fIntA [.bl k] S) Q = Q (.int (if k then 1 else 0)) S := wo_some
noncomputable def Wp (o : OM) (l : Lo) (S : Sto) (Q : Option Int → Sto → Prop) : Prop := ∃ v S', o l S = some (v, S') ∧ Q v S'
theorem wp_none {Q : Option Int → Sto → Prop} : Wp oNone l S Q = Q none S := by
  apply propext
  exact ⟨fun hx1_ => by obtain ⟨v, S', h, q⟩ := hx1_; cases h; exact q, fun q => ⟨_, _, rfl, q⟩⟩
theorem wp_some {e : EM} {Q : Option Int → Sto → Prop} : Wp (oSome e) l S Q = We e l S fun x S1 => ∃ i, x = .int i ∧ Q (some i) S1 := by
  apply propext
  constructor
  · rintro ⟨v, S', h, q⟩
    obtain ⟨⟨x, S1⟩, h1, h⟩ := bnd h
    refine ⟨x, S1, h1, ?_⟩
    cases x with
    | int i => cases h; exact ⟨i, rfl, q⟩
    | _ => cases h
  · rintro ⟨x, S1, h1, i, rfl, q⟩
    exact ⟨_, S1, by unfold oSome; rw [h1]; rfl, q⟩
theorem ex_int1 {b : Int} {p : Int → Prop} : (∃ k, D.int b = D.int k ∧ p k) = p b := by
  apply propext; constructor
  · rintro ⟨d, h, q⟩; cases h; exact q
  · exact fun q => ⟨b, rfl, q⟩
noncomputable def slA (x : D) (a b : Option Int) (S : Sto) : Option (D × Sto) := match x with
  | .tup xs => some (.tup (cutD xs a b), S)
  | .ref n => (lstOf S n).bind fun xs => some (.ref S.length, S ++ [.lst (cutD xs a b)])
  | .str z => if z.length ≤ sizeLine then some (.str (Txt.slice z a b), S) else none
  | _ => none
theorem we_slA {m : EM} {lo hi : OM} : We (eSlA m lo hi) l S Q = We m l S fun x S1 => Wp lo l S1 fun a S2 => Wp hi l S2 fun b S3 => Wo (slA x a b S3) Q := by
  apply propext
  constructor
  · rintro ⟨v, S', h, q⟩
    obtain ⟨⟨x, S1⟩, h1, h⟩ := bnd h
    obtain ⟨⟨a, S2⟩, h2, h⟩ := bnd h
    obtain ⟨⟨b, S3⟩, h3, h⟩ := bnd h
    exact ⟨x, S1, h1, a, S2, h2, b, S3, h3, v, S', h, q⟩
  · rintro ⟨x, S1, h1, a, S2, h2, b, S3, h3, v, S', h, q⟩
    refine ⟨v, S', ?_, q⟩
    unfold eSlA; rw [h1]; show (lo l S1).bind _ = _; rw [h2]; show (hi l S2).bind _ = _; rw [h3]; exact h
theorem wo_slT {xs : List D} {a b : Option Int} : Wo (slA (.tup xs) a b S) Q = Q (.tup (cutD xs a b)) S := wo_some
end
section
variable {it : ItM} {im : IM} {g : GM} {b : SM}
end
end L3
namespace L3
open PySem
theorem sum_le (B : Nat) : ∀ ts : List Str, (∀ t ∈ ts, t.length ≤ B) → (ts.map (·.length)).sum ≤ B * ts.length
  | [], _ => Nat.zero_le _
  | t :: ts, h => by
    have h1 := h t List.mem_cons_self
    have h2 := sum_le B ts fun x hx => h x (List.mem_cons_of_mem _ hx)
    simp only [List.map_cons, List.sum_cons, List.length_cons]
    rw [Nat.mul_add]; omega
theorem shownAll_map (xs : List PyData) : PyData.shownAll xs = xs.map PyData.shown := by
  induction xs with
  | nil => rfl
  | cons x xs ih => unfold PyData.shownAll; rw [ih]; rfl
theorem tup_len (B : Nat) (xs : List PyData) (h : ∀ x ∈ xs, x.shown.length ≤ B) : (PyData.tuple xs).shown.length ≤ B * xs.length + 2 * xs.length + 3 := by
  show (tupleText (PyData.shownAll xs)).length ≤ _
  rw [shownAll_map]
  have h1 := tupleText_len_le (xs.map PyData.shown)
  have h2 := sum_le B (xs.map PyData.shown) fun t ht => by
    obtain ⟨p, hp, rfl⟩ := List.mem_map.mp ht
    exact h p hp
  simp only [List.length_map] at h1 h2
  omega
noncomputable def Sh (S : Sto) (k B : Nat) (d : D) : Prop := ∃ p : PyData, p.shown.length ≤ B ∧ ∀ S', Gr S S' → pyOf S' k d = some p
theorem Sh.le {S : Sto} {k B B' : Nat} {d : D} (h : Sh S k B d) (hb : B ≤ B') : Sh S k B' d := let ⟨p, h1, h2⟩ := h; ⟨p, Nat.le_trans h1 hb, h2⟩
theorem sh_all {S : Sto} {k B : Nat} : ∀ (xs : List D), (∀ x ∈ xs, Sh S k B x) → ∃ ps : List PyData, ps.length = xs.length ∧ (∀ p ∈ ps, p.shown.length ≤ B) ∧ ∀ S', Gr S S' → pyAll S' k xs = some ps
  | [], _ => ⟨[], rfl, (fun p hp => by cases hp), fun ex _ => by unfold pyAll; rfl⟩
  | x :: xs, h => by
    obtain ⟨p, h1, h2⟩ := h x List.mem_cons_self
    obtain ⟨ps, h3, h4, h5⟩ := sh_all xs fun y hy => h y (List.mem_cons_of_mem _ hy)
    refine ⟨p :: ps, by simp [h3], fun q hq => ?_, fun ex g => ?_⟩
    · rcases List.mem_cons.mp hq with rfl | hq
      · exact h1
      · exact h4 q hq
    · unfold pyAll; rw [h2 ex g, h5 ex g]; rfl
theorem sh_tup {S : Sto} {k B n : Nat} {xs : List D} (h : ∀ x ∈ xs, Sh S k B x) (hn : xs.length ≤ n) : Sh S (k + 1) (B * n + 2 * n + 3) (.tup xs) := by
  obtain ⟨ps, h1, h2, h3⟩ := sh_all xs h
  refine ⟨.tuple ps, ?_, fun ex g => ?_⟩
  · have := tup_len B ps h2
    rw [h1] at this
    have h4 : B * xs.length ≤ B * n := Nat.mul_le_mul_left _ hn
    omega
  · unfold pyOf; rw [h3 ex g]; rfl
theorem small_log2 {n : Nat} (h : n < 1000000) : ((n : Nat) : Int).natAbs.log2 < 1920 := by
  by_cases hz : n = 0
  · subst hz; decide
  · have h1 : ((n : Nat) : Int).natAbs = n := by omega
    rw [h1]
    have h2 : n.log2 < 20 := (Nat.log2_lt hz).mpr (Nat.lt_of_lt_of_le h (by decide))
    omega
theorem sh_nat {S : Sto} {k n : Nat} (h : n < 1000000) : Sh S (k + 1) 10 (.int n) := by
  refine ⟨.int n, ?_, fun ex _ => by unfold pyOf; rw [if_pos (small_log2 h)]⟩
  show (PySem.Str.ofString (toString (n : Int))).length ≤ 10
  exact PySem.W.KT.len_num (by omega) (by omega)
theorem sh_non {S : Sto} {k : Nat} : Sh S (k + 1) 10 .non := ⟨.none, by decide +kernel, fun ex _ => by unfold pyOf; rfl⟩
end L3
namespace L3
open PySem
section
variable {a b m : EM} {ms : List EM} {l : Lo} {S S1 : Sto} {Q : D → Sto → Prop} {out : Str}
theorem we_fv : We (eFv m) l S Q = We m l S fun x S1 => ∃ z, fvD x = some z ∧ Q (.str z) S1 := by
  apply propext
  constructor
  · rintro ⟨v, S', h, q⟩
    obtain ⟨⟨x, S1⟩, h1, h⟩ := bnd h
    obtain ⟨z, h2, h⟩ := bnd h
    cases h
    exact ⟨x, _, h1, z, h2, q⟩
  · rintro ⟨x, S1, h1, z, h2, q⟩
    exact ⟨_, _, by unfold eFv; rw [h1]; show (fvD x).bind _ = _; rw [h2]; rfl, q⟩
theorem we_jp0 : We (eJp out []) l S Q = (out.length ≤ sizeLine ∧ Q (.str out) S) := wo_ite
theorem we_jp1 : We (eJp out (m :: ms)) l S Q = We m l S fun x S1 => ∃ z, x = .str z ∧ (out ++ z).length ≤ sizeLine ∧ We (eJp (out ++ z) ms) l S1 Q := by
  apply propext
  constructor
  · rintro ⟨v, S', h, q⟩
    obtain ⟨⟨x, S1⟩, h1, h⟩ := bnd (show (m l S).bind (fun p => match p.1 with
      | .str z => if (out ++ z).length ≤ sizeLine then eJp (out ++ z) ms l p.2 else none
      | _ => none) = some (v, S') from h)
    cases x with
    | str z =>
      obtain ⟨hz, h⟩ := ite_some' h
      exact ⟨_, S1, h1, z, rfl, hz, v, S', h, q⟩
    | _ => cases h
  · rintro ⟨x, S1, h1, z, rfl, hz, v, S', h, q⟩
    refine ⟨v, S', ?_, q⟩
    show (m l S).bind (fun p => match p.1 with
      | .str z => if (out ++ z).length ≤ sizeLine then eJp (out ++ z) ms l p.2 else none
      | _ => none) = _
    rw [h1]; show (if (out ++ z).length ≤ sizeLine then _ else _) = _; rw [if_pos hz]; exact h
theorem we_orS : We (eOrS a b) l S Q = We a l S fun x S1 => ∃ z, x = .str z ∧ z.length ≤ sizeLine ∧ if z.length = 0 then We b l S1 Q else Q (.str z) S1 := by
  apply propext
  constructor
  · rintro ⟨v, S', h, q⟩
    obtain ⟨⟨x, S1⟩, h1, h⟩ := bnd h
    cases x with
    | str z =>
      obtain ⟨hz, h⟩ := ite_some' (show (if z.length ≤ sizeLine then (if z.length = 0 then b l S1 else some (.str z, S1)) else none) = some (v, S') from h)
      refine ⟨_, S1, h1, z, rfl, hz, ?_⟩
      by_cases h0 : z.length = 0
      · rw [if_pos h0] at h ⊢; exact ⟨v, S', h, q⟩
      · rw [if_neg h0] at h ⊢; cases h; exact q
    | _ => cases h
  · rintro ⟨x, S1, h1, z, rfl, hz, h⟩
    by_cases h0 : z.length = 0
    · rw [if_pos h0] at h
      obtain ⟨v, S', h, q⟩ := h
      exact ⟨v, S', by unfold eOrS; rw [h1]; show (if z.length ≤ sizeLine then _ else _) = _; rw [if_pos hz, if_pos h0]; exact h, q⟩
    · rw [if_neg h0] at h
      exact ⟨_, _, by unfold eOrS; rw [h1]; show (if z.length ≤ sizeLine then _ else _) = _; rw [if_pos hz, if_neg h0], h⟩
theorem wo_split {x y : Str} : Wo (mSplit (.str x) [.str y] S) Q = ((y.length ≠ 0 ∧ x.length + 2 ≤ sizeLine) ∧ Q (.ref S.length) (S ++ [.lst ((Txt.split x y).map D.str)])) := wo_ite
theorem wo_partn {x y : Str} : Wo (mPartn (.str x) [.str y] S) Q = ((y.length ≠ 0 ∧ x.length ≤ sizeLine) ∧ Q (.tup [.str (Txt.partition x y).1, .str (Txt.partition x y).2.1, .str (Txt.partition x y).2.2]) S) := wo_ite
theorem txt_im {e : EM} {z : Str} (h : e l S = some (.str z, S1)) : iTxt e l S = some (itX (sgn z), (sgn z).length + 1, S1) := by
  unfold iTxt; rw [h, sgn_len]; rfl
theorem strs_of (ts : List Str) : strsD (ts.map D.str) = some ts := by
  induction ts with
  | nil => rfl
  | cons t ts ih => show (strsD (ts.map D.str)).bind _ = _; rw [ih]; rfl
theorem we_compA {α : Type} {im : IM} {it : ItM} {ixs : List (Option Nat)} {g : GM} {e : EM} (ys : List α) (f h : α → D) (P : Sto → Prop) (L : Lo → Prop) (him : im l S = some (it, (ys.map f).length + 1, S1)) (h0 : P S1) (l0 : L (srcL ixs l)) (hit : ∀ i S, P S → it i S = some (ys.map f)[i]?) (hz : ys.length ≤ sizeLine)
    (step : ∀ y l S, y ∈ ys → L l → P S → Wg (g (f y) l S) fun l1 S2 => L l1 ∧ We e l1 S2 fun v S3 => v = h y ∧ P S3)
    (fin : ∀ S', P S' → Q (.ref S'.length) (S' ++ [.lst (ys.map h)])) : We (eComp im ixs g tTrue e) l S Q := by
  refine we_comp (ys.map f) (fun i acc l S => acc = (ys.take i).map h ∧ L l ∧ P S) him ⟨rfl, l0, h0⟩ (fun i acc l S h => hit i S h.2.2) ?_ ?_
  · rintro i x acc l S hx ⟨rfl, hl, hp⟩
    rw [List.getElem?_map] at hx
    obtain ⟨y, hy, rfl⟩ := Option.map_eq_some_iff.mp hx
    obtain ⟨l1, S2, e1, q1, v, S3, e2, rfl, p3⟩ := step y l S (List.mem_of_getElem? hy) hl hp
    refine ⟨l1, S2, e1, ?_⟩
    dsimp only
    rw [wt_true, if_pos rfl]
    refine ⟨_, S3, e2, ?_, q1, p3⟩
    rw [List.take_add_one, hy]; simp
  · rintro acc l' S' ⟨rfl, hl, hp⟩
    have e : ys.take (ys.map f).length = ys := by rw [List.length_map, List.take_length]
    rw [e]
    exact ⟨by rw [List.length_map]; exact hz, fin S' hp⟩
end
end L3
section
namespace G
open PySem PySem.Spec PyProof.Rows L2 L3
noncomputable abbrev bd : List Stmt := PySem.Challenge.pw_opencells_k61_machines_written.main.body
noncomputable def b_show_part : SM := sRet (eIf3 (tE (eOp dIs (eVar 0) (eC .non))) (eC (.str "-")) (eCall fStr (aCons (eVar 0) (aNil))))
noncomputable def m_show_part : FM := runB 1 b_show_part
noncomputable def b_show_parts : SM := sRet (eMethS mJoin (eC (.str "")) (aCons (eComp (iVal (eVar 0)) [none] (gName3 0) (tTrue) (eCall m_show_part (aCons (eVar 0) (aNil)))) aNil))
noncomputable def m_show_parts : FM := runB 1 b_show_parts
noncomputable def b_show_row : SM := sRet (eOrS (eCall m_show_parts (aCons (eVar 0) (aNil))) (eC (.str "-")))
noncomputable def m_show_row : FM := runB 1 b_show_row
noncomputable def b_read_number : SM := sSeq (sForR (rng1 (aCons (eVar 1) (aNil))) (gName3 2) (sIf (tE (eOp dEq (eVar 0) (eCall fStr (aCons (eVar 2) (aNil))))) (sRet (eVar 2)) (sNext))) (sNever)
noncomputable def m_read_number : FM := runB 3 b_read_number
noncomputable def b_refuse_no_text : SM := sIf (tNot3 (tE (eUn (fIsI "str") (eVar 0)))) (sNever) (sNext)
noncomputable def m_refuse_no_text : FM := runB 1 b_refuse_no_text
noncomputable def b_read_row : SM := sSeq (sDrop (eCall m_refuse_no_text (aCons (eVar 1) (aNil)))) (sSeq (sIf (tE (eOp dEq (eVar 1) (eC (.str "-")))) (sRet (eCall fTup (aNil))) (sNext)) (sSeq (sIf (tE (eOp dEq (eVar 1) (eC (.str "")))) (sNever) (sNext)) (sRet (eCall fTuple (aCons (eComp (iTxt (eVar 1)) [none, some 0] (gName3 0) (tTrue) (eCall m_read_number (aCons (eVar 0) (aCons (eVar 1) (aNil))))) (aNil))))))
noncomputable def m_read_row : FM := runB 2 b_read_row
noncomputable def b_law_row_text : SM := sSeq (sIf (tE (eOp dEqD (eVar 0) (eCall fTup (aNil)))) (sRet (eC (.str "-"))) (sNext)) (sRet (eMethS mJoin (eC (.str "")) (aCons (eComp (iVal (eVar 0)) [none] (gName3 0) (tTrue) (eCall fStr (aCons (eVar 0) (aNil)))) aNil)))
noncomputable def m_law_row_text : FM := runB 1 b_law_row_text
noncomputable def b_show_cell : SM := sRet (eJp Str.empty [eFv (eCall m_show_part (aCons (eOp dIxA (eVar 0) (eC (.int 0))) (aNil))), eC (.str "/"), eFv (eCall m_show_part (aCons (eOp dIxA (eVar 0) (eC (.int 1))) (aNil)))])
noncomputable def m_show_cell : FM := runB 1 b_show_cell
noncomputable def b_read_part : SM := sRet (eIf3 (tE (eOp dEq (eVar 0) (eC (.str "-")))) (eC .non) (eCall m_read_number (aCons (eVar 0) (aCons (eVar 1) (aNil)))))
noncomputable def m_read_part : FM := runB 2 b_read_part
noncomputable def b_read_cell : SM := sSeq (sDrop (eCall m_refuse_no_text (aCons (eVar 0) (aNil)))) (sSeq (sAsg (eMethS mSplit (eVar 0) (aCons (eC (.str "/")) aNil)) (gName3 1)) (sSeq (sIf (tE (eOp dNe (eCall fLenA (aCons (eVar 1) (aNil))) (eC (.int 2)))) (sNever) (sNext)) (sRet (eCall fTup (aCons (eCall m_read_part (aCons (eOp dIxA (eVar 1) (eC (.int 0))) (aCons (eC (.int 24)) (aNil)))) (aCons (eCall m_read_part (aCons (eOp dIxA (eVar 1) (eC (.int 1))) (aCons (eC (.int 8)) (aNil)))) (aNil)))))))
noncomputable def m_read_cell : FM := runB 2 b_read_cell
noncomputable def b_law_part_text : SM := sSeq (sIf (tE (eOp dIs (eVar 0) (eC .non))) (sRet (eC (.str "-"))) (sNext)) (sRet (eCall fStr (aCons (eVar 0) (aNil))))
noncomputable def m_law_part_text : FM := runB 1 b_law_part_text
noncomputable def b_law_cell_text : SM := sRet (eOp dPlusA (eOp dPlusA (eCall m_law_part_text (aCons (eOp dIxA (eVar 0) (eC (.int 0))) (aNil))) (eC (.str "/"))) (eCall m_law_part_text (aCons (eOp dIxA (eVar 0) (eC (.int 1))) (aNil))))
noncomputable def m_law_cell_text : FM := runB 1 b_law_cell_text
noncomputable def b_show_machine : SM := sSeq (sAsg (eVar 0) (gTup3 2 (gCons3 (gName3 1) (gCons3 (gName3 2) (gNil3))))) (sSeq (sAsg (eComp (iVal (eVar 2)) [none] (gName3 0) (tTrue) (eMethS mJoin (eC (.str " ")) (aCons (eComp (iVal (eVar 0)) [none] (gName3 0) (tTrue) (eCall m_show_cell (aCons (eVar 0) (aNil)))) aNil))) (gName3 3)) (sRet (eOp dPlusA (eJp Str.empty [eFv (eVar 1), eC (.str ": ")]) (eMethS mJoin (eC (.str " | ")) (aCons (eVar 3) aNil)))))
noncomputable def m_show_machine : FM := runB 4 b_show_machine
noncomputable def b_is_below : SM := sRet (eAnd3 (eUn (fIsI "int") (eVar 0)) (eAnd3 (eNot3 (eUn (fIsI "bool") (eVar 0))) (eChain dLe dLt (eC (.int 0)) (eVar 0) (eVar 1))))
noncomputable def m_is_below : FM := runB 2 b_is_below
noncomputable def b_is_cell : SM := sSeq (sIf (tOr3 (tNot3 (tE (eUn (fIsI "tuple") (eVar 0)))) (tE (eOp dNe (eCall fLenA (aCons (eVar 0) (aNil))) (eC (.int 2))))) (sRet (eC (.bl false))) (sNext)) (sSeq (sAsg (eVar 0) (gTup3 2 (gCons3 (gName3 2) (gCons3 (gName3 3) (gNil3))))) (sRet (eAnd3 (eOr3 (eOp dIs (eVar 2) (eC .non)) (eCall m_is_below (aCons (eVar 2) (aCons (eVar 1) (aNil))))) (eOr3 (eOp dIs (eVar 3) (eC .non)) (eCall m_is_below (aCons (eVar 3) (aCons (eC (.int 8)) (aNil))))))))
noncomputable def m_is_cell : FM := runB 4 b_is_cell
noncomputable def b_is_room : SM := sSeq (sIf (tOr3 (tNot3 (tE (eUn (fIsI "tuple") (eVar 0)))) (tE (eOp dNe (eCall fLenA (aCons (eVar 0) (aNil))) (eVar 1)))) (sRet (eC (.bl false))) (sNext)) (sRet (eCall fAll (aCons (eComp (iVal (eVar 0)) [none, some 2] (gName3 0) (tTrue) (eCall m_is_cell (aCons (eVar 0) (aCons (eVar 1) (aNil))))) (aNil))))
noncomputable def m_is_room : FM := runB 3 b_is_room
noncomputable def b_is_machine : SM := sSeq (sIf (tOr3 (tNot3 (tE (eUn (fIsI "tuple") (eVar 0)))) (tE (eOp dNe (eCall fLenA (aCons (eVar 0) (aNil))) (eC (.int 2))))) (sRet (eC (.bl false))) (sNext)) (sSeq (sAsg (eVar 0) (gTup3 2 (gCons3 (gName3 1) (gCons3 (gName3 2) (gNil3))))) (sSeq (sIf (tOr3 (tNot3 (tE (eCall m_is_below (aCons (eVar 1) (aCons (eOp dPlusA (eC (.int 4)) (eC (.int 1))) (aNil)))))) (tE (eOp dEq (eVar 1) (eC (.int 0))))) (sRet (eC (.bl false))) (sNext)) (sSeq (sIf (tOr3 (tNot3 (tE (eUn (fIsI "tuple") (eVar 2)))) (tNot3 (tE (eChain dLe dLe (eC (.int 1)) (eCall fLenA (aCons (eVar 2) (aNil))) (eC (.int 24)))))) (sRet (eC (.bl false))) (sNext)) (sRet (eCall fAll (aCons (eComp (iVal (eVar 2)) [none, some 1, some 2] (gName3 0) (tTrue) (eCall m_is_room (aCons (eVar 0) (aCons (eVar 1) (aCons (eCall fLenA (aCons (eVar 2) (aNil))) (aNil)))))) (aNil)))))))
noncomputable def m_is_machine : FM := runB 3 b_is_machine
noncomputable def b_read_machine : SM := sSeq (sDrop (eCall m_refuse_no_text (aCons (eVar 0) (aNil)))) (sSeq (sAsg (eMethS mPartn (eVar 0) (aCons (eC (.str ": ")) aNil)) (gTup3 3 (gCons3 (gName3 1) (gCons3 (gName3 2) (gCons3 (gName3 3) (gNil3)))))) (sSeq (sAsg (eCall m_read_number (aCons (eVar 1) (aCons (eOp dPlusA (eC (.int 4)) (eC (.int 1))) (aNil)))) (gName3 4)) (sSeq (sAsg (eComp (iVal (eMethS mSplit (eVar 3) (aCons (eC (.str " | ")) aNil))) [none] (gName3 0) (tTrue) (eCall fTuple (aCons (eComp (iVal (eMethS mSplit (eVar 0) (aCons (eC (.str " ")) aNil))) [none] (gName3 0) (tTrue) (eCall m_read_cell (aCons (eVar 0) (aNil)))) (aNil)))) (gName3 5)) (sSeq (sAsg (eCall fTup (aCons (eVar 4) (aCons (eCall fTuple (aCons (eVar 5) (aNil))) (aNil)))) (gName3 6)) (sSeq (sIf (tNot3 (tE (eCall m_is_machine (aCons (eVar 6) (aNil))))) (sNever) (sNext)) (sRet (eVar 6)))))))
noncomputable def m_read_machine : FM := runB 7 b_read_machine
noncomputable def b_law_machine_text : SM := sSeq (sAsg (eComp (iVal (eOp dIxA (eVar 0) (eC (.int 1)))) [none] (gName3 0) (tTrue) (eMethS mJoin (eC (.str " ")) (aCons (eComp (iVal (eVar 0)) [none] (gName3 0) (tTrue) (eCall m_law_cell_text (aCons (eVar 0) (aNil)))) aNil))) (gName3 1)) (sRet (eOp dPlusA (eOp dPlusA (eCall fStr (aCons (eOp dIxA (eVar 0) (eC (.int 0))) (aNil))) (eC (.str ": "))) (eMethS mJoin (eC (.str " | ")) (aCons (eVar 1) aNil))))
noncomputable def m_law_machine_text : FM := runB 2 b_law_machine_text
noncomputable def b_law_draw : SM := sSeq (sAsg (eOp dPlusA (eOp dIxA (eVar 0) (eC (.int 2))) (eC (.int 1))) (gSub3 (eVar 0) (eC (.int 2)))) (sSeq (sIf (tE (eOp dGt (eOp dIxA (eVar 0) (eC (.int 0))) (eC (.int 0)))) (sSeq (sAsg (eOp dMod (eOp dIxA (eVar 0) (eC (.int 0))) (eVar 1)) (gName3 2)) (sSeq (sAsg (eOp dDiv (eOp dIxA (eVar 0) (eC (.int 0))) (eVar 1)) (gSub3 (eVar 0) (eC (.int 0)))) (sRet (eVar 2)))) (sNext)) (sSeq (sAsg (eOp dMod (eOp dTimes (eOp dPlusA (eOp dIxA (eVar 0) (eC (.int 1))) (eC (.int 29))) (eOp dPlusA (eOp dTimes (eC (.int 40503)) (eOp dIxA (eVar 0) (eC (.int 2)))) (eC (.int 7919)))) (eC (.int 2147483629))) (gName3 3)) (sSeq (sAsg (eOp dMod (eOp dPlusA (eOp dPow (eVar 3) (eC (.int 3))) (eOp dTimes (eC (.int 69621)) (eOp dIxA (eVar 0) (eC (.int 2))))) (eC (.int 2147483587))) (gName3 3)) (sSeq (sAsg (eOp dMod (eOp dPow (eVar 3) (eC (.int 5))) (eOp dIxA (eCall fLst (aCons (eC (.int 2147483647)) (aCons (eC (.int 2147483563)) (aCons (eC (.int 2147483549)) (aNil))))) (eOp dMod (eOp dIxA (eVar 0) (eC (.int 2))) (eC (.int 3))))) (gName3 3)) (sRet (eOp dMod (eOp dDiv (eVar 3) (eC (.int 64))) (eVar 1)))))))
noncomputable def m_law_draw : FM := runB 4 b_law_draw
noncomputable def b_law_cell : SM := sSeq (sAsg (eCall m_law_draw (aCons (eVar 0) (aCons (eVar 1) (aNil)))) (gName3 4)) (sSeq (sAsg (eCall m_law_draw (aCons (eVar 0) (aCons (eVar 3) (aNil)))) (gName3 5)) (sSeq (sIf (tE (eOp dLt (eCall m_law_draw (aCons (eVar 0) (aCons (eC (.int 8)) (aNil)))) (eVar 2))) (sAsg (eC .non) (gName3 4)) (sNext)) (sSeq (sIf (tE (eOp dLt (eCall m_law_draw (aCons (eVar 0) (aCons (eC (.int 8)) (aNil)))) (eVar 2))) (sAsg (eC .non) (gName3 5)) (sNext)) (sRet (eCall fTup (aCons (eVar 4) (aCons (eVar 5) (aNil))))))))
noncomputable def m_law_cell : FM := runB 6 b_law_cell
noncomputable def b_law_machine : SM := sSeq (sAsg (eOp dPlusA (eC (.int 1)) (eCall m_law_draw (aCons (eVar 0) (aCons (eVar 1) (aNil))))) (gName3 3)) (sSeq (sAsg (eOp dIxA (eCall fLst (aCons (eC (.int 0)) (aCons (eC (.int 1)) (aCons (eC (.int 3)) (aCons (eC (.int 6)) (aNil)))))) (eCall m_law_draw (aCons (eVar 0) (aCons (eC (.int 4)) (aNil))))) (gName3 4)) (sSeq (sAsg (eOp dIxA (eCall fLst (aCons (eC (.int 2)) (aCons (eC (.int 3)) (aCons (eC (.int 8)) (aNil))))) (eCall m_law_draw (aCons (eVar 0) (aCons (eC (.int 3)) (aNil))))) (gName3 5)) (sSeq (sAsg (eCall fLst (aNil)) (gName3 6)) (sSeq (sForR (rng1 (aCons (eVar 3) (aNil))) (gName3 7) (sSeq (sAsg (eComp (iRng (rng1 (aCons (eVar 2) (aNil)))) [none, some 0, some 3, some 4, some 5] (gName3 0) (tTrue) (eCall m_law_cell (aCons (eVar 1) (aCons (eVar 2) (aCons (eVar 3) (aCons (eVar 4) (aNil))))))) (gName3 8)) (sSeq (sIf (tAnd3 (tE (eOp dGt (eVar 7) (eC (.int 0)))) (tE (eOp dEq (eCall m_law_draw (aCons (eVar 0) (aCons (eC (.int 3)) (aNil)))) (eC (.int 0))))) (sSeq (sAsg (eCall fList (aCons (eOp dIxA (eVar 6) (eCall m_law_draw (aCons (eVar 0) (aCons (eVar 7) (aNil))))) (aNil))) (gName3 8)) (sAsg (eCall m_law_cell (aCons (eVar 0) (aCons (eVar 3) (aCons (eVar 4) (aCons (eVar 5) (aNil)))))) (gSub3 (eVar 8) (eCall m_law_draw (aCons (eVar 0) (aCons (eVar 2) (aNil))))))) (sNext)) (sDrop (eMethL mAppend (eVar 6) (aCons (eCall fTuple (aCons (eVar 8) (aNil))) aNil)))))) (sRet (eCall fTup (aCons (eVar 2) (aCons (eCall fTuple (aCons (eVar 6) (aNil))) (aNil)))))))))
noncomputable def m_law_machine : FM := runB 9 b_law_machine
noncomputable def b_law_pen : SM := sSeq (sAsg (eOp dPlusA (eOp dTimes (eC (.int 104729)) (eVar 1)) (eC (.int 37))) (gName3 2)) (sSeq (sIf (tE (eOp dLt (eVar 1) (eCall fLenA (aCons (eVar 0) (aNil))))) (sAsg (eOp dIxA (eVar 0) (eVar 1)) (gName3 2)) (sIf (tE (eOp dGt (eCall fLenA (aCons (eVar 0) (aNil))) (eC (.int 0)))) (sAsg (eOp dPlusA (eOp dMod (eOp dIxA (eVar 0) (eOp dMod (eVar 1) (eCall fLenA (aCons (eVar 0) (aNil))))) (eC (.int 2147483629))) (eOp dTimes (eC (.int 69621)) (eVar 1))) (gName3 2)) (sNext))) (sSeq (sIf (tE (eOp dGe (eVar 2) (eOp dPow (eC (.int 10)) (eC (.int 18))))) (sRet (eCall fLst (aCons (eOp dSub (eVar 2) (eOp dPow (eC (.int 10)) (eC (.int 18)))) (aCons (eOp dMod (eVar 2) (eC (.int 2147483587))) (aCons (eC (.int 0)) (aNil)))))) (sNext)) (sRet (eCall fLst (aCons (eC (.int 0)) (aCons (eOp dMod (eVar 2) (eC (.int 2147483587))) (aCons (eC (.int 0)) (aNil))))))))
noncomputable def m_law_pen : FM := runB 3 b_law_pen
noncomputable def b_law : SM := sSeq (sForR (rng1 (aCons (eCall fMax2 (aCons (eC (.int 2)) (aCons (eCall fMin2 (aCons (eCall fLenA (aCons (eVar 0) (aNil))) (aCons (eC (.int 12)) (aNil)))) (aNil)))) (aNil))) (gName3 1) (sSeq (sAsg (eCall m_law_pen (aCons (eVar 0) (aCons (eVar 1) (aNil)))) (gName3 2)) (sSeq (sAsg (eOp dPlusA (eC (.int 1)) (eCall m_law_draw (aCons (eVar 2) (aCons (eC (.int 4)) (aNil))))) (gName3 3)) (sSeq (sAsg (eCall m_law_machine (aCons (eVar 2) (aCons (eC (.int 24)) (aCons (eVar 3) (aNil))))) (gName3 4)) (sSeq (sAsg (eOp dIxA (eOp dIxA (eVar 4) (eC (.int 1))) (eCall m_law_draw (aCons (eVar 2) (aCons (eCall fLenA (aCons (eOp dIxA (eVar 4) (eC (.int 1))) (aNil))) (aNil))))) (gName3 5)) (sSeq (sAsg (eOp dIxA (eVar 5) (eCall m_law_draw (aCons (eVar 2) (aCons (eVar 3) (aNil))))) (gName3 6)) (sSeq (sAsg (eOp dIxA (eCall fLst (aCons (eCall m_law_draw (aCons (eVar 2) (aCons (eC (.int 4)) (aNil)))) (aCons (eCall m_law_draw (aCons (eVar 2) (aCons (eC (.int 61)) (aNil)))) (aCons (eC (.int 300)) (aNil))))) (eOp dIxA (eCall fLst (aCons (eC (.int 0)) (aCons (eC (.int 0)) (aCons (eC (.int 1)) (aCons (eC (.int 1)) (aCons (eC (.int 1)) (aCons (eC (.int 2)) (aNil)))))))) (eCall m_law_draw (aCons (eVar 2) (aCons (eC (.int 6)) (aNil)))))) (gName3 7)) (sSeq (sAsg (eCall fTuple (aCons (eComp (iRng (rng1 (aCons (eVar 7) (aNil)))) [none, some 2, some 3] (gName3 0) (tTrue) (eCall m_law_draw (aCons (eVar 1) (aCons (eVar 2) (aNil))))) (aNil))) (gName3 8)) (sForR (rng1 (aCons (eC (.int 2)) (aNil))) (gName3 9) (sSeq (sAsg (eCall m_law_machine_text (aCons (eVar 4) (aNil))) (gName3 10)) (sSeq (sIf (tOr3 (tE (eOp dNe (eCall m_show_machine (aCons (eVar 4) (aNil))) (eVar 10))) (tE (eOp dNe (eCall fRepr (aCons (eCall m_read_machine (aCons (eVar 10) (aNil))) (aNil))) (eCall fRepr (aCons (eVar 4) (aNil)))))) (sRet (eC (.bl false))) (sNext)) (sSeq (sAsg (eCall m_law_cell_text (aCons (eVar 6) (aNil))) (gName3 10)) (sSeq (sIf (tOr3 (tE (eOp dNe (eCall m_show_cell (aCons (eVar 6) (aNil))) (eVar 10))) (tE (eOp dNe (eCall fRepr (aCons (eCall m_read_cell (aCons (eVar 10) (aNil))) (aNil))) (eCall fRepr (aCons (eVar 6) (aNil)))))) (sRet (eC (.bl false))) (sNext)) (sSeq (sAsg (eCall m_law_row_text (aCons (eVar 8) (aNil))) (gName3 10)) (sSeq (sAsg (eCall m_read_row (aCons (eVar 3) (aCons (eVar 10) (aNil)))) (gName3 11)) (sIf (tOr3 (tE (eOp dNe (eCall fRepr (aCons (eVar 11) (aNil))) (eCall fRepr (aCons (eVar 8) (aNil))))) (tOr3 (tE (eOp dNe (eCall m_show_row (aCons (eVar 11) (aNil))) (eVar 10))) (tAnd3 (tE (eOp dLe (eVar 7) (eC (.int 60)))) (tE (eOp dNe (eCall m_show_row (aCons (eVar 8) (aNil))) (eVar 10)))))) (sRet (eC (.bl false))) (sNext))))))))))))))))) (sRet (eC (.bl true)))
noncomputable def m_law : FM := runB 12 b_law
theorem bl0 {C : List PySem.Value → Prop} (h : C []) : ∀ us : List PySem.Value, us.length = 0 → C us := by
  intro us hl
  rw [List.eq_nil_of_length_eq_zero hl]; exact h
theorem blS {n : Nat} {C : List PySem.Value → Prop} (h : ∀ a (us : List PySem.Value), us.length = n → C (a :: us)) : ∀ us : List PySem.Value, us.length = n + 1 → C us := by
  intro us hl
  cases us with
  | nil => cases hl
  | cons a us => exact h a us (Nat.succ.inj hl)
theorem bl1 {C : List PySem.Value → Prop} (h : ∀ a0, C [a0]) : ∀ us : List PySem.Value, us.length = 1 → C us := blS fun a0 => bl0 (C := fun us => C (a0 :: us)) (h a0)
theorem bl2 {C : List PySem.Value → Prop} (h : ∀ a0 a1, C [a0, a1]) : ∀ us : List PySem.Value, us.length = 2 → C us := blS fun a0 => blS fun a1 => bl0 (C := fun us => C (a0 :: a1 :: us)) (h a0 a1)
theorem bl3 {C : List PySem.Value → Prop} (h : ∀ a0 a1 a2, C [a0, a1, a2]) : ∀ us : List PySem.Value, us.length = 3 → C us := blS fun a0 => blS fun a1 => blS fun a2 => bl0 (C := fun us => C (a0 :: a1 :: a2 :: us)) (h a0 a1 a2)
theorem bl4 {C : List PySem.Value → Prop} (h : ∀ a0 a1 a2 a3, C [a0, a1, a2, a3]) : ∀ us : List PySem.Value, us.length = 4 → C us := blS fun a0 => blS fun a1 => blS fun a2 => blS fun a3 => bl0 (C := fun us => C (a0 :: a1 :: a2 :: a3 :: us)) (h a0 a1 a2 a3)
section
variable {P : Program} {w : World} {K : PySem.W.Frag} {mg : Str → Option Value} {base : Heap} {CA : Str → Addr}
theorem sc_show_part : FnScope ["part"] ["part"] (defScope (top bd 12)) := ⟨rfl, rfl, rfl, by decide +kernel, rfl, by decide +kernel, by decide +kernel⟩
theorem h_m_show_part {f : Addr} {fd : FuncData} (F : Fun K "show_part" "show_part" (top bd 12) f fd) (hm : mg "show_part" = some (.ref f)) (z_str : mg "str" = none) : Has P w K mg base "show_part" 1 1 m_show_part := by
  have sc := sc_show_part
  refine has_of (k := 0) F hm sc rfl (F.binds (by intro _ _ _ _ _ _ us hl; revert us; exact bl1 fun _ => rfl)) fun cdv hcd A outer s H E hr => ?_
  exact ss3_one (s3_ret (p3_ifE (t3_is (p3_var 0) (p3_non)) (p3_str) (p3_str1 rfl z_str (a3_cons (p3_var 0) (a3_nil)))))
theorem sc_show_parts : FnScope ["parts"] ["parts"] (defScope (top bd 16)) := ⟨rfl, rfl, rfl, by decide +kernel, rfl, by decide +kernel, by decide +kernel⟩
theorem h_m_show_parts {f : Addr} {fd : FuncData} (F : Fun K "show_parts" "show_parts" (top bd 16) f fd) (hm : mg "show_parts" = some (.ref f)) (h_m_show_part : Has P w K mg base "show_part" 1 1 m_show_part) : Has P w K mg base "show_parts" 2 1 m_show_parts := by
  have sc := sc_show_parts
  refine has_of (k := 1) F hm sc rfl (F.binds (by intro _ _ _ _ _ _ us hl; revert us; exact bl1 fun _ => rfl)) fun cdv hcd A outer s H E hr => ?_
  exact ss3_one (s3_ret (p3_join (p3_str) (p3_comp (N' := ["part"]) (ixs := [none]) rfl (compSc_of (scO := defScope (top bd 16)) (NO := ["parts"]) rfl rfl (by decide +kernel)) (i3_val (p3_var 0)) (fun _ _ _ _ _ => g3_name 0 (show List.Nodup (["part"] : List Str) by decide +kernel)) (fun _ _ _ _ _ => pts3_nil) (fun _ _ _ _ _ => p3_fn h_m_show_part hr (by decide) rfl (a3_cons (p3_var 0) (a3_nil)) (len_cons len_nil)))))
theorem sc_show_row : FnScope ["row"] ["row"] (defScope (top bd 15)) := ⟨rfl, rfl, rfl, by decide +kernel, rfl, by decide +kernel, by decide +kernel⟩
theorem h_m_show_row {f : Addr} {fd : FuncData} (F : Fun K "show_row" "show_row" (top bd 15) f fd) (hm : mg "show_row" = some (.ref f)) (h_m_show_parts : Has P w K mg base "show_parts" 2 1 m_show_parts) : Has P w K mg base "show_row" 3 1 m_show_row := by
  have sc := sc_show_row
  refine has_of (k := 2) F hm sc rfl (F.binds (by intro _ _ _ _ _ _ us hl; revert us; exact bl1 fun _ => rfl)) fun cdv hcd A outer s H E hr => ?_
  exact ss3_one (s3_ret (p3_orS (p3_fn h_m_show_parts hr (by decide) rfl (a3_cons (p3_var 0) (a3_nil)) (len_cons len_nil)) (p3_one (p3_str))))
theorem sc_read_number : FnScope ["text", "count", "number"] ["text", "count"] (defScope (top bd 18)) := ⟨rfl, rfl, rfl, by decide +kernel, rfl, by decide +kernel, by decide +kernel⟩
theorem h_m_read_number {f : Addr} {fd : FuncData} (F : Fun K "read_number" "read_number" (top bd 18) f fd) (hm : mg "read_number" = some (.ref f)) (z_str : mg "str" = none) (z_range : mg "range" = none) : Has P w K mg base "read_number" 1 2 m_read_number := by
  have sc := sc_read_number
  refine has_of (k := 0) F hm sc rfl (F.binds (by intro _ _ _ _ _ _ us hl; revert us; exact bl2 fun _ _ => rfl)) fun cdv hcd A outer s H E hr => ?_
  exact ss3_cons (s3_forR1 PassesOwn.never rfl rfl z_range (a3_cons (p3_var 1) (a3_nil)) (g3_name 2 sc.nd) (ss3_one (s3_if (t3_eq (p3_var 0) (p3_str1 rfl z_str (a3_cons (p3_var 2) (a3_nil)))) (ss3_one (s3_ret (p3_var 2))) (ss3_nil)))) (ss3_one (s3_never))
theorem sc_refuse_no_text : FnScope ["thing"] ["thing"] (defScope (top bd 17)) := ⟨rfl, rfl, rfl, by decide +kernel, rfl, by decide +kernel, by decide +kernel⟩
theorem h_m_refuse_no_text {f : Addr} {fd : FuncData} (F : Fun K "refuse_no_text" "refuse_no_text" (top bd 17) f fd) (hm : mg "refuse_no_text" = some (.ref f)) (z_isinstance : mg "isinstance" = none) (z_str : mg "str" = none) : Has P w K mg base "refuse_no_text" 1 1 m_refuse_no_text := by
  have sc := sc_refuse_no_text
  refine has_of (k := 0) F hm sc rfl (F.binds (by intro _ _ _ _ _ _ us hl; revert us; exact bl1 fun _ => rfl)) fun cdv hcd A outer s H E hr => ?_
  exact ss3_one (s3_if (t3_not (t3_val (p3_isinst (U := "str") rfl z_isinstance rfl z_str boot_str' (by decide) (p3_var 0)))) (ss3_one (s3_never)) (ss3_nil))
theorem sc_read_row : FnScope ["asks", "text"] ["asks", "text"] (defScope (top bd 22)) := ⟨rfl, rfl, rfl, by decide +kernel, rfl, by decide +kernel, by decide +kernel⟩
theorem h_m_read_row {f : Addr} {fd : FuncData} (F : Fun K "read_row" "read_row" (top bd 22) f fd) (hm : mg "read_row" = some (.ref f)) (z_tuple : mg "tuple" = none) (h_m_read_number : Has P w K mg base "read_number" 1 2 m_read_number) (h_m_refuse_no_text : Has P w K mg base "refuse_no_text" 1 1 m_refuse_no_text) : Has P w K mg base "read_row" 2 2 m_read_row := by
  have sc := sc_read_row
  refine has_of (k := 1) F hm sc rfl (F.binds (by intro _ _ _ _ _ _ us hl; revert us; exact bl2 fun _ _ => rfl)) fun cdv hcd A outer s H E hr => ?_
  exact ss3_cons (s3_expr (p3_fn h_m_refuse_no_text hr (by decide) rfl (a3_cons (p3_var 1) (a3_nil)) (len_cons len_nil))) (ss3_cons (s3_if (t3_eq (p3_var 1) (p3_str)) (ss3_one (s3_ret (p3_tup (a3_nil)))) (ss3_nil)) (ss3_cons (s3_if (t3_eq (p3_var 1) (p3_str)) (ss3_one (s3_never)) (ss3_nil)) (ss3_one (s3_ret (p3_tuple1 rfl z_tuple (a3_cons (p3_comp (N' := ["sign", "asks"]) (ixs := [none, some 0]) rfl (compSc_of (scO := defScope (top bd 22)) (NO := ["asks", "text"]) rfl rfl (by decide +kernel)) (i3_txt (p3_var 1)) (fun _ _ _ _ _ => g3_name 0 (show List.Nodup (["sign", "asks"] : List Str) by decide +kernel)) (fun _ _ _ _ _ => pts3_nil) (fun _ _ _ _ _ => p3_fn h_m_read_number hr (by decide) rfl (a3_cons (p3_var 0) (a3_cons (p3_var 1) (a3_nil))) (len_cons (len_cons len_nil)))) (a3_nil)))))))
theorem sc_law_row_text : FnScope ["_law_row"] ["_law_row"] (defScope (top bd 31)) := ⟨rfl, rfl, rfl, by decide +kernel, rfl, by decide +kernel, by decide +kernel⟩
theorem h_m_law_row_text {f : Addr} {fd : FuncData} (F : Fun K "_law_row_text" "_law_row_text" (top bd 31) f fd) (hm : mg "_law_row_text" = some (.ref f)) (z_str : mg "str" = none) : Has P w K mg base "_law_row_text" 1 1 m_law_row_text := by
  have sc := sc_law_row_text
  refine has_of (k := 0) F hm sc rfl (F.binds (by intro _ _ _ _ _ _ us hl; revert us; exact bl1 fun _ => rfl)) fun cdv hcd A outer s H E hr => ?_
  exact ss3_cons (s3_if (t3_eqD hr (p3_var 0) (p3_tup (a3_nil))) (ss3_one (s3_ret (p3_str))) (ss3_nil)) (ss3_one (s3_ret (p3_join (p3_str) (p3_comp (N' := ["_law_ask"]) (ixs := [none]) rfl (compSc_of (scO := defScope (top bd 31)) (NO := ["_law_row"]) rfl rfl (by decide +kernel)) (i3_val (p3_var 0)) (fun _ _ _ _ _ => g3_name 0 (show List.Nodup (["_law_ask"] : List Str) by decide +kernel)) (fun _ _ _ _ _ => pts3_nil) (fun _ _ _ _ _ => p3_str1 rfl z_str (a3_cons (p3_var 0) (a3_nil)))))))
theorem sc_show_cell : FnScope ["cell"] ["cell"] (defScope (top bd 13)) := ⟨rfl, rfl, rfl, by decide +kernel, rfl, by decide +kernel, by decide +kernel⟩
theorem h_m_show_cell {f : Addr} {fd : FuncData} (F : Fun K "show_cell" "show_cell" (top bd 13) f fd) (hm : mg "show_cell" = some (.ref f)) (h_m_show_part : Has P w K mg base "show_part" 1 1 m_show_part) : Has P w K mg base "show_cell" 2 1 m_show_cell := by
  have sc := sc_show_cell
  refine has_of (k := 1) F hm sc rfl (F.binds (by intro _ _ _ _ _ _ us hl; revert us; exact bl1 fun _ => rfl)) fun cdv hcd A outer s H E hr => ?_
  exact ss3_one (s3_ret (p3_fstr (j3_cons (p3_fv (p3_fn h_m_show_part hr (by decide) rfl (a3_cons (p3_ixA (p3_var 0) (p3_int)) (a3_nil)) (len_cons len_nil))) (fun _ => j3_cons (p3_str) (fun _ => j3_cons (p3_fv (p3_fn h_m_show_part hr (by decide) rfl (a3_cons (p3_ixA (p3_var 0) (p3_int)) (a3_nil)) (len_cons len_nil))) (fun _ => j3_nil))))))
theorem sc_read_part : FnScope ["text", "count"] ["text", "count"] (defScope (top bd 19)) := ⟨rfl, rfl, rfl, by decide +kernel, rfl, by decide +kernel, by decide +kernel⟩
theorem h_m_read_part {f : Addr} {fd : FuncData} (F : Fun K "read_part" "read_part" (top bd 19) f fd) (hm : mg "read_part" = some (.ref f)) (h_m_read_number : Has P w K mg base "read_number" 1 2 m_read_number) : Has P w K mg base "read_part" 2 2 m_read_part := by
  have sc := sc_read_part
  refine has_of (k := 1) F hm sc rfl (F.binds (by intro _ _ _ _ _ _ us hl; revert us; exact bl2 fun _ _ => rfl)) fun cdv hcd A outer s H E hr => ?_
  exact ss3_one (s3_ret (p3_ifE (t3_eq (p3_var 0) (p3_str)) (p3_non) (p3_fn h_m_read_number hr (by decide) rfl (a3_cons (p3_var 0) (a3_cons (p3_var 1) (a3_nil))) (len_cons (len_cons len_nil)))))
theorem sc_read_cell : FnScope ["text", "parts"] ["text"] (defScope (top bd 20)) := ⟨rfl, rfl, rfl, by decide +kernel, rfl, by decide +kernel, by decide +kernel⟩
theorem h_m_read_cell {f : Addr} {fd : FuncData} (F : Fun K "read_cell" "read_cell" (top bd 20) f fd) (hm : mg "read_cell" = some (.ref f)) (z_len : mg "len" = none) (c_ANSWERS : ∃ t, mg "ANSWERS" = some (.int 8 t)) (c_MOST_ROOMS : ∃ t, mg "MOST_ROOMS" = some (.int 24 t)) (h_m_read_part : Has P w K mg base "read_part" 2 2 m_read_part) (h_m_refuse_no_text : Has P w K mg base "refuse_no_text" 1 1 m_refuse_no_text) : Has P w K mg base "read_cell" 3 1 m_read_cell := by
  obtain ⟨_, c_ANSWERS⟩ := c_ANSWERS
  obtain ⟨_, c_MOST_ROOMS⟩ := c_MOST_ROOMS
  have sc := sc_read_cell
  refine has_of (k := 2) F hm sc rfl (F.binds (by intro _ _ _ _ _ _ us hl; revert us; exact bl1 fun _ => rfl)) fun cdv hcd A outer s H E hr => ?_
  exact ss3_cons (s3_expr (p3_fn h_m_refuse_no_text hr (by decide) rfl (a3_cons (p3_var 0) (a3_nil)) (len_cons len_nil))) (ss3_cons (s3_set 1 sc.nd (p3_split (p3_var 0) (p3_str))) (ss3_cons (s3_if (t3_ne (p3_lenA rfl z_len (a3_cons (p3_var 1) (a3_nil))) (p3_int)) (ss3_one (s3_never)) (ss3_nil)) (ss3_one (s3_ret (p3_tup (a3_cons (p3_fn h_m_read_part hr (by decide) rfl (a3_cons (p3_ixA (p3_var 1) (p3_int)) (a3_cons (p3_globI rfl c_MOST_ROOMS) (a3_nil))) (len_cons (len_cons len_nil))) (a3_cons (p3_fn h_m_read_part hr (by decide) rfl (a3_cons (p3_ixA (p3_var 1) (p3_int)) (a3_cons (p3_globI rfl c_ANSWERS) (a3_nil))) (len_cons (len_cons len_nil))) (a3_nil))))))))
theorem sc_law_part_text : FnScope ["_law_number"] ["_law_number"] (defScope (top bd 28)) := ⟨rfl, rfl, rfl, by decide +kernel, rfl, by decide +kernel, by decide +kernel⟩
theorem h_m_law_part_text {f : Addr} {fd : FuncData} (F : Fun K "_law_part_text" "_law_part_text" (top bd 28) f fd) (hm : mg "_law_part_text" = some (.ref f)) (z_str : mg "str" = none) : Has P w K mg base "_law_part_text" 1 1 m_law_part_text := by
  have sc := sc_law_part_text
  refine has_of (k := 0) F hm sc rfl (F.binds (by intro _ _ _ _ _ _ us hl; revert us; exact bl1 fun _ => rfl)) fun cdv hcd A outer s H E hr => ?_
  exact ss3_cons (s3_if (t3_is (p3_var 0) (p3_non)) (ss3_one (s3_ret (p3_str))) (ss3_nil)) (ss3_one (s3_ret (p3_str1 rfl z_str (a3_cons (p3_var 0) (a3_nil)))))
theorem sc_law_cell_text : FnScope ["_law_cell_here"] ["_law_cell_here"] (defScope (top bd 29)) := ⟨rfl, rfl, rfl, by decide +kernel, rfl, by decide +kernel, by decide +kernel⟩
theorem h_m_law_cell_text {f : Addr} {fd : FuncData} (F : Fun K "_law_cell_text" "_law_cell_text" (top bd 29) f fd) (hm : mg "_law_cell_text" = some (.ref f)) (h_m_law_part_text : Has P w K mg base "_law_part_text" 1 1 m_law_part_text) : Has P w K mg base "_law_cell_text" 2 1 m_law_cell_text := by
  have sc := sc_law_cell_text
  refine has_of (k := 1) F hm sc rfl (F.binds (by intro _ _ _ _ _ _ us hl; revert us; exact bl1 fun _ => rfl)) fun cdv hcd A outer s H E hr => ?_
  exact ss3_one (s3_ret (p3_plusA (p3_plusA (p3_fn h_m_law_part_text hr (by decide) rfl (a3_cons (p3_ixA (p3_var 0) (p3_int)) (a3_nil)) (len_cons len_nil)) (p3_str)) (p3_fn h_m_law_part_text hr (by decide) rfl (a3_cons (p3_ixA (p3_var 0) (p3_int)) (a3_nil)) (len_cons len_nil))))
theorem sc_show_machine : FnScope ["machine", "asks", "rooms", "shown"] ["machine"] (defScope (top bd 14)) := ⟨rfl, rfl, rfl, by decide +kernel, rfl, by decide +kernel, by decide +kernel⟩
theorem h_m_show_machine {f : Addr} {fd : FuncData} (F : Fun K "show_machine" "show_machine" (top bd 14) f fd) (hm : mg "show_machine" = some (.ref f)) (h_m_show_cell : Has P w K mg base "show_cell" 2 1 m_show_cell) : Has P w K mg base "show_machine" 3 1 m_show_machine := by
  have sc := sc_show_machine
  refine has_of (k := 2) F hm sc rfl (F.binds (by intro _ _ _ _ _ _ us hl; revert us; exact bl1 fun _ => rfl)) fun cdv hcd A outer s H E hr => ?_
  exact ss3_cons (s3_asg (p3_var 0) (g3_tup rfl (gs3_cons (g3_name 1 sc.nd) (gs3_cons (g3_name 2 sc.nd) (gs3_nil))))) (ss3_cons (s3_setc 3 sc.nd (N' := ["room"]) (ixs := [none]) rfl (compSc_of (scO := defScope (top bd 14)) (NO := ["machine", "asks", "rooms", "shown"]) rfl rfl (by decide +kernel)) (i3_val (p3_var 2)) (fun _ _ _ _ _ => g3_name 0 (show List.Nodup (["room"] : List Str) by decide +kernel)) (fun _ _ _ _ _ => pts3_nil) (fun _ _ _ _ _ => p3_join (p3_str) (p3_comp (N' := ["cell"]) (ixs := [none]) rfl (compSc_in (by decide +kernel)) (i3_val (p3_var 0)) (fun _ _ _ _ _ => g3_name 0 (show List.Nodup (["cell"] : List Str) by decide +kernel)) (fun _ _ _ _ _ => pts3_nil) (fun _ _ _ _ _ => p3_fn h_m_show_cell hr (by decide) rfl (a3_cons (p3_var 0) (a3_nil)) (len_cons len_nil))))) (ss3_one (s3_ret (p3_plusA (p3_fstr (j3_cons (p3_fv (p3_var 1)) (fun _ => j3_cons (p3_str) (fun _ => j3_nil)))) (p3_join (p3_str) (p3_var 3))))))
theorem sc_is_below : FnScope ["thing", "count"] ["thing", "count"] (defScope (top bd 7)) := ⟨rfl, rfl, rfl, by decide +kernel, rfl, by decide +kernel, by decide +kernel⟩
theorem h_m_is_below {f : Addr} {fd : FuncData} (F : Fun K "is_below" "is_below" (top bd 7) f fd) (hm : mg "is_below" = some (.ref f)) (z_isinstance : mg "isinstance" = none) (z_int : mg "int" = none) (z_bool : mg "bool" = none) : Has P w K mg base "is_below" 1 2 m_is_below := by
  have sc := sc_is_below
  refine has_of (k := 0) F hm sc rfl (F.binds (by intro _ _ _ _ _ _ us hl; revert us; exact bl2 fun _ _ => rfl)) fun cdv hcd A outer s H E hr => ?_
  exact ss3_one (s3_ret (p3_and (p3_isinst (U := "int") rfl z_isinstance rfl z_int boot_int' (by decide) (p3_var 0)) (p3_and (p3_not (p3_isinst (U := "bool") rfl z_isinstance rfl z_bool boot_bool' (by decide) (p3_var 0))) (p3_one (p3_chain op_le op_lt (op3_I0 fun _ _ _ _ => .bl _) (op3_I0 fun _ _ _ _ => .bl _) (p3_int) (p3_var 0) (p3_var 1))))))
theorem sc_is_cell : FnScope ["thing", "many", "goes", "says"] ["thing", "many"] (defScope (top bd 10)) := ⟨rfl, rfl, rfl, by decide +kernel, rfl, by decide +kernel, by decide +kernel⟩
theorem h_m_is_cell {f : Addr} {fd : FuncData} (F : Fun K "is_cell" "is_cell" (top bd 10) f fd) (hm : mg "is_cell" = some (.ref f)) (z_isinstance : mg "isinstance" = none) (z_tuple : mg "tuple" = none) (z_len : mg "len" = none) (c_ANSWERS : ∃ t, mg "ANSWERS" = some (.int 8 t)) (h_m_is_below : Has P w K mg base "is_below" 1 2 m_is_below) : Has P w K mg base "is_cell" 2 2 m_is_cell := by
  obtain ⟨_, c_ANSWERS⟩ := c_ANSWERS
  have sc := sc_is_cell
  refine has_of (k := 1) F hm sc rfl (F.binds (by intro _ _ _ _ _ _ us hl; revert us; exact bl2 fun _ _ => rfl)) fun cdv hcd A outer s H E hr => ?_
  exact ss3_cons (s3_if (t3_w (w3_or (t3_not (t3_val (p3_isinst (U := "tuple") rfl z_isinstance rfl z_tuple boot_tuple' (by decide) (p3_var 0)))) (w3_or1 (t3_ne (p3_lenA rfl z_len (a3_cons (p3_var 0) (a3_nil))) (p3_int))))) (ss3_one (s3_ret (p3_bl))) (ss3_nil)) (ss3_cons (s3_asg (p3_var 0) (g3_tup rfl (gs3_cons (g3_name 2 sc.nd) (gs3_cons (g3_name 3 sc.nd) (gs3_nil))))) (ss3_one (s3_ret (p3_and (p3_or (p3_is (p3_var 2) (p3_non)) (p3_one (p3_fn h_m_is_below hr (by decide) rfl (a3_cons (p3_var 2) (a3_cons (p3_var 1) (a3_nil))) (len_cons (len_cons len_nil))))) (p3_one (p3_or (p3_is (p3_var 3) (p3_non)) (p3_one (p3_fn h_m_is_below hr (by decide) rfl (a3_cons (p3_var 3) (a3_cons (p3_globI rfl c_ANSWERS) (a3_nil))) (len_cons (len_cons len_nil))))))))))
theorem sc_is_room : FnScope ["thing", "asks", "many"] ["thing", "asks", "many"] (defScope (top bd 9)) := ⟨rfl, rfl, rfl, by decide +kernel, rfl, by decide +kernel, by decide +kernel⟩
theorem h_m_is_room {f : Addr} {fd : FuncData} (F : Fun K "is_room" "is_room" (top bd 9) f fd) (hm : mg "is_room" = some (.ref f)) (z_all : mg "all" = none) (z_isinstance : mg "isinstance" = none) (z_tuple : mg "tuple" = none) (z_len : mg "len" = none) (h_m_is_cell : Has P w K mg base "is_cell" 2 2 m_is_cell) : Has P w K mg base "is_room" 3 3 m_is_room := by
  have sc := sc_is_room
  refine has_of (k := 2) F hm sc rfl (F.binds (by intro _ _ _ _ _ _ us hl; revert us; exact bl3 fun _ _ _ => rfl)) fun cdv hcd A outer s H E hr => ?_
  exact ss3_cons (s3_if (t3_w (w3_or (t3_not (t3_val (p3_isinst (U := "tuple") rfl z_isinstance rfl z_tuple boot_tuple' (by decide) (p3_var 0)))) (w3_or1 (t3_ne (p3_lenA rfl z_len (a3_cons (p3_var 0) (a3_nil))) (p3_var 1))))) (ss3_one (s3_ret (p3_bl))) (ss3_nil)) (ss3_one (s3_ret (p3_all rfl rfl z_all (a3_cons (p3_comp (N' := ["cell", "many"]) (ixs := [none, some 2]) rfl (compSc_of (scO := defScope (top bd 9)) (NO := ["thing", "asks", "many"]) rfl rfl (by decide +kernel)) (i3_val (p3_var 0)) (fun _ _ _ _ _ => g3_name 0 (show List.Nodup (["cell", "many"] : List Str) by decide +kernel)) (fun _ _ _ _ _ => pts3_nil) (fun _ _ _ _ _ => p3_fn h_m_is_cell hr (by decide) rfl (a3_cons (p3_var 0) (a3_cons (p3_var 1) (a3_nil))) (len_cons (len_cons len_nil)))) (a3_nil)))))
theorem sc_is_machine : FnScope ["thing", "asks", "rooms"] ["thing"] (defScope (top bd 8)) := ⟨rfl, rfl, rfl, by decide +kernel, rfl, by decide +kernel, by decide +kernel⟩
theorem h_m_is_machine {f : Addr} {fd : FuncData} (F : Fun K "is_machine" "is_machine" (top bd 8) f fd) (hm : mg "is_machine" = some (.ref f)) (z_all : mg "all" = none) (z_len : mg "len" = none) (z_isinstance : mg "isinstance" = none) (z_tuple : mg "tuple" = none) (c_MOST_ROOMS : ∃ t, mg "MOST_ROOMS" = some (.int 24 t)) (c_MOST_ASKS : ∃ t, mg "MOST_ASKS" = some (.int 4 t)) (h_m_is_room : Has P w K mg base "is_room" 3 3 m_is_room) (h_m_is_below : Has P w K mg base "is_below" 1 2 m_is_below) : Has P w K mg base "is_machine" 4 1 m_is_machine := by
  obtain ⟨_, c_MOST_ROOMS⟩ := c_MOST_ROOMS
  obtain ⟨_, c_MOST_ASKS⟩ := c_MOST_ASKS
  have sc := sc_is_machine
  refine has_of (k := 3) F hm sc rfl (F.binds (by intro _ _ _ _ _ _ us hl; revert us; exact bl1 fun _ => rfl)) fun cdv hcd A outer s H E hr => ?_
  exact ss3_cons (s3_if (t3_w (w3_or (t3_not (t3_val (p3_isinst (U := "tuple") rfl z_isinstance rfl z_tuple boot_tuple' (by decide) (p3_var 0)))) (w3_or1 (t3_ne (p3_lenA rfl z_len (a3_cons (p3_var 0) (a3_nil))) (p3_int))))) (ss3_one (s3_ret (p3_bl))) (ss3_nil)) (ss3_cons (s3_asg (p3_var 0) (g3_tup rfl (gs3_cons (g3_name 1 sc.nd) (gs3_cons (g3_name 2 sc.nd) (gs3_nil))))) (ss3_cons (s3_if (t3_w (w3_or (t3_not (t3_val (p3_fn h_m_is_below hr (by decide) rfl (a3_cons (p3_var 1) (a3_cons (p3_plusA (p3_globI rfl c_MOST_ASKS) (p3_int)) (a3_nil))) (len_cons (len_cons len_nil))))) (w3_or1 (t3_eq (p3_var 1) (p3_int))))) (ss3_one (s3_ret (p3_bl))) (ss3_nil)) (ss3_cons (s3_if (t3_w (w3_or (t3_not (t3_val (p3_isinst (U := "tuple") rfl z_isinstance rfl z_tuple boot_tuple' (by decide) (p3_var 2)))) (w3_or1 (t3_not (t3_chain op_le op_le (op3_I0 fun _ _ _ _ => .bl _) (op3_I0 fun _ _ _ _ => .bl _) (p3_int) (p3_lenA rfl z_len (a3_cons (p3_var 2) (a3_nil))) (p3_globI rfl c_MOST_ROOMS)))))) (ss3_one (s3_ret (p3_bl))) (ss3_nil)) (ss3_one (s3_ret (p3_all rfl rfl z_all (a3_cons (p3_comp (N' := ["room", "asks", "rooms"]) (ixs := [none, some 1, some 2]) rfl (compSc_of (scO := defScope (top bd 8)) (NO := ["thing", "asks", "rooms"]) rfl rfl (by decide +kernel)) (i3_val (p3_var 2)) (fun _ _ _ _ _ => g3_name 0 (show List.Nodup (["room", "asks", "rooms"] : List Str) by decide +kernel)) (fun _ _ _ _ _ => pts3_nil) (fun _ _ _ _ _ => p3_fn h_m_is_room hr (by decide) rfl (a3_cons (p3_var 0) (a3_cons (p3_var 1) (a3_cons (p3_lenA rfl z_len (a3_cons (p3_var 2) (a3_nil))) (a3_nil)))) (len_cons (len_cons (len_cons len_nil))))) (a3_nil))))))))
theorem sc_read_machine : FnScope ["text", "head", "sign", "rest", "asks", "rooms", "machine"] ["text"] (defScope (top bd 21)) := ⟨rfl, rfl, rfl, by decide +kernel, rfl, by decide +kernel, by decide +kernel⟩
theorem h_m_read_machine {f : Addr} {fd : FuncData} (F : Fun K "read_machine" "read_machine" (top bd 21) f fd) (hm : mg "read_machine" = some (.ref f)) (z_tuple : mg "tuple" = none) (c_MOST_ASKS : ∃ t, mg "MOST_ASKS" = some (.int 4 t)) (h_m_is_machine : Has P w K mg base "is_machine" 4 1 m_is_machine) (h_m_read_cell : Has P w K mg base "read_cell" 3 1 m_read_cell) (h_m_read_number : Has P w K mg base "read_number" 1 2 m_read_number) (h_m_refuse_no_text : Has P w K mg base "refuse_no_text" 1 1 m_refuse_no_text) : Has P w K mg base "read_machine" 5 1 m_read_machine := by
  obtain ⟨_, c_MOST_ASKS⟩ := c_MOST_ASKS
  have sc := sc_read_machine
  refine has_of (k := 4) F hm sc rfl (F.binds (by intro _ _ _ _ _ _ us hl; revert us; exact bl1 fun _ => rfl)) fun cdv hcd A outer s H E hr => ?_
  exact ss3_cons (s3_expr (p3_fn h_m_refuse_no_text hr (by decide) rfl (a3_cons (p3_var 0) (a3_nil)) (len_cons len_nil))) (ss3_cons (s3_asg (p3_partn (p3_var 0) (p3_str)) (g3_tup rfl (gs3_cons (g3_name 1 sc.nd) (gs3_cons (g3_name 2 sc.nd) (gs3_cons (g3_name 3 sc.nd) (gs3_nil)))))) (ss3_cons (s3_set 4 sc.nd (p3_fn h_m_read_number hr (by decide) rfl (a3_cons (p3_var 1) (a3_cons (p3_plusA (p3_globI rfl c_MOST_ASKS) (p3_int)) (a3_nil))) (len_cons (len_cons len_nil)))) (ss3_cons (s3_setc 5 sc.nd (N' := ["room"]) (ixs := [none]) rfl (compSc_of (scO := defScope (top bd 21)) (NO := ["text", "head", "sign", "rest", "asks", "rooms", "machine"]) rfl rfl (by decide +kernel)) (i3_val (p3_split (p3_var 3) (p3_str))) (fun _ _ _ _ _ => g3_name 0 (show List.Nodup (["room"] : List Str) by decide +kernel)) (fun _ _ _ _ _ => pts3_nil) (fun _ _ _ _ _ => p3_tuple1 rfl z_tuple (a3_cons (p3_comp (N' := ["cell"]) (ixs := [none]) rfl (compSc_in (by decide +kernel)) (i3_val (p3_split (p3_var 0) (p3_str))) (fun _ _ _ _ _ => g3_name 0 (show List.Nodup (["cell"] : List Str) by decide +kernel)) (fun _ _ _ _ _ => pts3_nil) (fun _ _ _ _ _ => p3_fn h_m_read_cell hr (by decide) rfl (a3_cons (p3_var 0) (a3_nil)) (len_cons len_nil))) (a3_nil)))) (ss3_cons (s3_set 6 sc.nd (p3_tup (a3_cons (p3_var 4) (a3_cons (p3_tuple1 rfl z_tuple (a3_cons (p3_var 5) (a3_nil))) (a3_nil))))) (ss3_cons (s3_if (t3_not (t3_val (p3_fn h_m_is_machine hr (by decide) rfl (a3_cons (p3_var 6) (a3_nil)) (len_cons len_nil)))) (ss3_one (s3_never)) (ss3_nil)) (ss3_one (s3_ret (p3_var 6))))))))
theorem sc_law_machine_text : FnScope ["_law_machine_here", "_law_rooms"] ["_law_machine_here"] (defScope (top bd 30)) := ⟨rfl, rfl, rfl, by decide +kernel, rfl, by decide +kernel, by decide +kernel⟩
theorem h_m_law_machine_text {f : Addr} {fd : FuncData} (F : Fun K "_law_machine_text" "_law_machine_text" (top bd 30) f fd) (hm : mg "_law_machine_text" = some (.ref f)) (z_str : mg "str" = none) (h_m_law_cell_text : Has P w K mg base "_law_cell_text" 2 1 m_law_cell_text) : Has P w K mg base "_law_machine_text" 3 1 m_law_machine_text := by
  have sc := sc_law_machine_text
  refine has_of (k := 2) F hm sc rfl (F.binds (by intro _ _ _ _ _ _ us hl; revert us; exact bl1 fun _ => rfl)) fun cdv hcd A outer s H E hr => ?_
  exact ss3_cons (s3_setc 1 sc.nd (N' := ["_law_cells"]) (ixs := [none]) rfl (compSc_of (scO := defScope (top bd 30)) (NO := ["_law_machine_here", "_law_rooms"]) rfl rfl (by decide +kernel)) (i3_val (p3_ixA (p3_var 0) (p3_int))) (fun _ _ _ _ _ => g3_name 0 (show List.Nodup (["_law_cells"] : List Str) by decide +kernel)) (fun _ _ _ _ _ => pts3_nil) (fun _ _ _ _ _ => p3_join (p3_str) (p3_comp (N' := ["_law_cell_here"]) (ixs := [none]) rfl (compSc_in (by decide +kernel)) (i3_val (p3_var 0)) (fun _ _ _ _ _ => g3_name 0 (show List.Nodup (["_law_cell_here"] : List Str) by decide +kernel)) (fun _ _ _ _ _ => pts3_nil) (fun _ _ _ _ _ => p3_fn h_m_law_cell_text hr (by decide) rfl (a3_cons (p3_var 0) (a3_nil)) (len_cons len_nil))))) (ss3_one (s3_ret (p3_plusA (p3_plusA (p3_str1 rfl z_str (a3_cons (p3_ixA (p3_var 0) (p3_int)) (a3_nil))) (p3_str)) (p3_join (p3_str) (p3_var 1)))))
theorem sc_law_draw : FnScope ["_law_pen_here", "_law_many", "_law_drawn", "_law_number"] ["_law_pen_here", "_law_many"] (defScope (top bd 25)) := ⟨rfl, rfl, rfl, by decide +kernel, rfl, by decide +kernel, by decide +kernel⟩
theorem h_m_law_draw {f : Addr} {fd : FuncData} (F : Fun K "_law_draw" "_law_draw" (top bd 25) f fd) (hm : mg "_law_draw" = some (.ref f)) : Has P w K mg base "_law_draw" 1 2 m_law_draw := by
  have sc := sc_law_draw
  refine has_of (k := 0) F hm sc rfl (F.binds (by intro _ _ _ _ _ _ us hl; revert us; exact bl2 fun _ _ => rfl)) fun cdv hcd A outer s H E hr => ?_
  exact ss3_cons (s3_asg (p3_plusA (p3_ixA (p3_var 0) (p3_int)) (p3_int)) (g3_sub (p3_var 0) (p3_int))) (ss3_cons (s3_if (t3_gt (p3_ixA (p3_var 0) (p3_int)) (p3_int)) (ss3_cons (s3_set 2 sc.nd (p3_mod (p3_ixA (p3_var 0) (p3_int)) (p3_var 1))) (ss3_cons (s3_asg (p3_div (p3_ixA (p3_var 0) (p3_int)) (p3_var 1)) (g3_sub (p3_var 0) (p3_int))) (ss3_one (s3_ret (p3_var 2))))) (ss3_nil)) (ss3_cons (s3_set 3 sc.nd (p3_mod (p3_times (p3_plusA (p3_ixA (p3_var 0) (p3_int)) (p3_int)) (p3_plusA (p3_times (p3_int) (p3_ixA (p3_var 0) (p3_int))) (p3_int))) (p3_int))) (ss3_cons (s3_set 3 sc.nd (p3_mod (p3_plusA (p3_pow (p3_var 3) (p3_int)) (p3_times (p3_int) (p3_ixA (p3_var 0) (p3_int)))) (p3_int))) (ss3_cons (s3_set 3 sc.nd (p3_mod (p3_pow (p3_var 3) (p3_int)) (p3_ixA (p3_lst (a3_cons (p3_int) (a3_cons (p3_int) (a3_cons (p3_int) (a3_nil))))) (p3_mod (p3_ixA (p3_var 0) (p3_int)) (p3_int))))) (ss3_one (s3_ret (p3_mod (p3_div (p3_var 3) (p3_int)) (p3_var 1))))))))
theorem sc_law_cell : FnScope ["_law_pen_here", "_law_many", "_law_share", "_law_pool", "_law_goes", "_law_speaks"] ["_law_pen_here", "_law_many", "_law_share", "_law_pool"] (defScope (top bd 26)) := ⟨rfl, rfl, rfl, by decide +kernel, rfl, by decide +kernel, by decide +kernel⟩
theorem h_m_law_cell {f : Addr} {fd : FuncData} (F : Fun K "_law_cell" "_law_cell" (top bd 26) f fd) (hm : mg "_law_cell" = some (.ref f)) (h_m_law_draw : Has P w K mg base "_law_draw" 1 2 m_law_draw) : Has P w K mg base "_law_cell" 2 4 m_law_cell := by
  have sc := sc_law_cell
  refine has_of (k := 1) F hm sc rfl (F.binds (by intro _ _ _ _ _ _ us hl; revert us; exact bl4 fun _ _ _ _ => rfl)) fun cdv hcd A outer s H E hr => ?_
  exact ss3_cons (s3_set 4 sc.nd (p3_fn h_m_law_draw hr (by decide) rfl (a3_cons (p3_var 0) (a3_cons (p3_var 1) (a3_nil))) (len_cons (len_cons len_nil)))) (ss3_cons (s3_set 5 sc.nd (p3_fn h_m_law_draw hr (by decide) rfl (a3_cons (p3_var 0) (a3_cons (p3_var 3) (a3_nil))) (len_cons (len_cons len_nil)))) (ss3_cons (s3_if (t3_lt (p3_fn h_m_law_draw hr (by decide) rfl (a3_cons (p3_var 0) (a3_cons (p3_int) (a3_nil))) (len_cons (len_cons len_nil))) (p3_var 2)) (ss3_one (s3_set 4 sc.nd (p3_non))) (ss3_nil)) (ss3_cons (s3_if (t3_lt (p3_fn h_m_law_draw hr (by decide) rfl (a3_cons (p3_var 0) (a3_cons (p3_int) (a3_nil))) (len_cons (len_cons len_nil))) (p3_var 2)) (ss3_one (s3_set 5 sc.nd (p3_non))) (ss3_nil)) (ss3_one (s3_ret (p3_tup (a3_cons (p3_var 4) (a3_cons (p3_var 5) (a3_nil)))))))))
theorem sc_law_machine : FnScope ["_law_pen_here", "_law_most", "_law_asks", "_law_many", "_law_share", "_law_pool", "_law_rooms", "_law_k", "_law_cells"] ["_law_pen_here", "_law_most", "_law_asks"] (defScope (top bd 27)) := ⟨rfl, rfl, rfl, by decide +kernel, rfl, by decide +kernel, by decide +kernel⟩
theorem h_m_law_machine {f : Addr} {fd : FuncData} (F : Fun K "_law_machine" "_law_machine" (top bd 27) f fd) (hm : mg "_law_machine" = some (.ref f)) (z_tuple : mg "tuple" = none) (z_list : mg "list" = none) (z_range : mg "range" = none) (h_m_law_draw : Has P w K mg base "_law_draw" 1 2 m_law_draw) (h_m_law_cell : Has P w K mg base "_law_cell" 2 4 m_law_cell) : Has P w K mg base "_law_machine" 3 3 m_law_machine := by
  have sc := sc_law_machine
  refine has_of (k := 2) F hm sc rfl (F.binds (by intro _ _ _ _ _ _ us hl; revert us; exact bl3 fun _ _ _ => rfl)) fun cdv hcd A outer s H E hr => ?_
  exact ss3_cons (s3_set 3 sc.nd (p3_plusA (p3_int) (p3_fn h_m_law_draw hr (by decide) rfl (a3_cons (p3_var 0) (a3_cons (p3_var 1) (a3_nil))) (len_cons (len_cons len_nil))))) (ss3_cons (s3_set 4 sc.nd (p3_ixA (p3_lst (a3_cons (p3_int) (a3_cons (p3_int) (a3_cons (p3_int) (a3_cons (p3_int) (a3_nil)))))) (p3_fn h_m_law_draw hr (by decide) rfl (a3_cons (p3_var 0) (a3_cons (p3_int) (a3_nil))) (len_cons (len_cons len_nil))))) (ss3_cons (s3_set 5 sc.nd (p3_ixA (p3_lst (a3_cons (p3_int) (a3_cons (p3_int) (a3_cons (p3_int) (a3_nil))))) (p3_fn h_m_law_draw hr (by decide) rfl (a3_cons (p3_var 0) (a3_cons (p3_int) (a3_nil))) (len_cons (len_cons len_nil))))) (ss3_cons (s3_set 6 sc.nd (p3_lst (a3_nil))) (ss3_cons (s3_forR1 PassesOwn.never rfl rfl z_range (a3_cons (p3_var 3) (a3_nil)) (g3_name 7 sc.nd) (ss3_cons (s3_setc 8 sc.nd (N' := ["_law_ask", "_law_pen_here", "_law_many", "_law_share", "_law_pool"]) (ixs := [none, some 0, some 3, some 4, some 5]) rfl (compSc_of (scO := defScope (top bd 27)) (NO := ["_law_pen_here", "_law_most", "_law_asks", "_law_many", "_law_share", "_law_pool", "_law_rooms", "_law_k", "_law_cells"]) rfl rfl (by decide +kernel)) (i3_rng1 rfl z_range (a3_cons (p3_var 2) (a3_nil))) (fun _ _ _ _ _ => g3_name 0 (show List.Nodup (["_law_ask", "_law_pen_here", "_law_many", "_law_share", "_law_pool"] : List Str) by decide +kernel)) (fun _ _ _ _ _ => pts3_nil) (fun _ _ _ _ _ => p3_fn h_m_law_cell hr (by decide) rfl (a3_cons (p3_var 1) (a3_cons (p3_var 2) (a3_cons (p3_var 3) (a3_cons (p3_var 4) (a3_nil))))) (len_cons (len_cons (len_cons (len_cons len_nil)))))) (ss3_cons (s3_if (t3_w (w3_and (t3_gt (p3_var 7) (p3_int)) (w3_and1 (t3_eq (p3_fn h_m_law_draw hr (by decide) rfl (a3_cons (p3_var 0) (a3_cons (p3_int) (a3_nil))) (len_cons (len_cons len_nil))) (p3_int))))) (ss3_cons (s3_set 8 sc.nd (p3_list1 rfl z_list (a3_cons (p3_ixA (p3_var 6) (p3_fn h_m_law_draw hr (by decide) rfl (a3_cons (p3_var 0) (a3_cons (p3_var 7) (a3_nil))) (len_cons (len_cons len_nil)))) (a3_nil)))) (ss3_one (s3_asg (p3_fn h_m_law_cell hr (by decide) rfl (a3_cons (p3_var 0) (a3_cons (p3_var 3) (a3_cons (p3_var 4) (a3_cons (p3_var 5) (a3_nil))))) (len_cons (len_cons (len_cons (len_cons len_nil))))) (g3_sub (p3_var 8) (p3_fn h_m_law_draw hr (by decide) rfl (a3_cons (p3_var 0) (a3_cons (p3_var 2) (a3_nil))) (len_cons (len_cons len_nil))))))) (ss3_nil)) (ss3_one (s3_expr (p3_append (p3_var 6) (p3_tuple1 rfl z_tuple (a3_cons (p3_var 8) (a3_nil))))))))) (ss3_one (s3_ret (p3_tup (a3_cons (p3_var 2) (a3_cons (p3_tuple1 rfl z_tuple (a3_cons (p3_var 6) (a3_nil))) (a3_nil))))))))))
theorem sc_law_pen : FnScope ["_law_script", "_law_k", "_law_cell_here"] ["_law_script", "_law_k"] (defScope (top bd 24)) := ⟨rfl, rfl, rfl, by decide +kernel, rfl, by decide +kernel, by decide +kernel⟩
theorem h_m_law_pen {f : Addr} {fd : FuncData} (F : Fun K "_law_pen" "_law_pen" (top bd 24) f fd) (hm : mg "_law_pen" = some (.ref f)) (z_len : mg "len" = none) : Has P w K mg base "_law_pen" 1 2 m_law_pen := by
  have sc := sc_law_pen
  refine has_of (k := 0) F hm sc rfl (F.binds (by intro _ _ _ _ _ _ us hl; revert us; exact bl2 fun _ _ => rfl)) fun cdv hcd A outer s H E hr => ?_
  exact ss3_cons (s3_set 2 sc.nd (p3_plusA (p3_times (p3_int) (p3_var 1)) (p3_int))) (ss3_cons (s3_if (t3_lt (p3_var 1) (p3_lenA rfl z_len (a3_cons (p3_var 0) (a3_nil)))) (ss3_one (s3_set 2 sc.nd (p3_ixA (p3_var 0) (p3_var 1)))) (ss3_one (s3_if (t3_gt (p3_lenA rfl z_len (a3_cons (p3_var 0) (a3_nil))) (p3_int)) (ss3_one (s3_set 2 sc.nd (p3_plusA (p3_mod (p3_ixA (p3_var 0) (p3_mod (p3_var 1) (p3_lenA rfl z_len (a3_cons (p3_var 0) (a3_nil))))) (p3_int)) (p3_times (p3_int) (p3_var 1))))) (ss3_nil)))) (ss3_cons (s3_if (t3_ge (p3_var 2) (p3_pow (p3_int) (p3_int))) (ss3_one (s3_ret (p3_lst (a3_cons (p3_sub (p3_var 2) (p3_pow (p3_int) (p3_int))) (a3_cons (p3_mod (p3_var 2) (p3_int)) (a3_cons (p3_int) (a3_nil))))))) (ss3_nil)) (ss3_one (s3_ret (p3_lst (a3_cons (p3_int) (a3_cons (p3_mod (p3_var 2) (p3_int)) (a3_cons (p3_int) (a3_nil)))))))))
theorem sc_law : FnScope ["_law_script", "_law_k", "_law_pen_here", "_law_asks", "_law_machine_here", "_law_room", "_law_cell_here", "_law_long", "_law_row", "_law_again", "_law_text", "_law_told"] ["_law_script"] (defScope (top bd 32)) := ⟨rfl, rfl, rfl, by decide +kernel, rfl, by decide +kernel, by decide +kernel⟩
theorem law_fn {f : Addr} {fd : FuncData} (F : Fun K "law" "law" (top bd 32) f fd) (z_repr : mg "repr" = none) (z_range : mg "range" = none) (z_tuple : mg "tuple" = none) (z_len : mg "len" = none) (z_max : mg "max" = none) (z_min : mg "min" = none) (h_m_show_row : Has P w K mg base "show_row" 3 1 m_show_row) (h_m_read_row : Has P w K mg base "read_row" 2 2 m_read_row) (h_m_law_row_text : Has P w K mg base "_law_row_text" 1 1 m_law_row_text) (h_m_show_cell : Has P w K mg base "show_cell" 2 1 m_show_cell) (h_m_read_cell : Has P w K mg base "read_cell" 3 1 m_read_cell) (h_m_law_cell_text : Has P w K mg base "_law_cell_text" 2 1 m_law_cell_text) (h_m_show_machine : Has P w K mg base "show_machine" 3 1 m_show_machine) (h_m_read_machine : Has P w K mg base "read_machine" 5 1 m_read_machine) (h_m_law_machine_text : Has P w K mg base "_law_machine_text" 3 1 m_law_machine_text) (h_m_law_draw : Has P w K mg base "_law_draw" 1 2 m_law_draw) (h_m_law_machine : Has P w K mg base "_law_machine" 3 3 m_law_machine) (h_m_law_pen : Has P w K mg base "_law_pen" 1 2 m_law_pen) : FnOk P w K mg base CX0 6 f fd ["_law_script"] (sp3 K 1 m_law) := by
  have sc := sc_law
  refine fun3 (k := 5) F sc rfl fun cdv hcd A outer s H E hr => ?_
  exact ss3_cons (s3_forR1 PassesOwn.never rfl rfl z_range (a3_cons (p3_max2 rfl rfl z_max (a3_cons (p3_int) (a3_cons (p3_min2 rfl rfl z_min (a3_cons (p3_lenA rfl z_len (a3_cons (p3_var 0) (a3_nil))) (a3_cons (p3_int) (a3_nil)))) (a3_nil)))) (a3_nil)) (g3_name 1 sc.nd) (ss3_cons (s3_set 2 sc.nd (p3_fn h_m_law_pen hr (by decide) rfl (a3_cons (p3_var 0) (a3_cons (p3_var 1) (a3_nil))) (len_cons (len_cons len_nil)))) (ss3_cons (s3_set 3 sc.nd (p3_plusA (p3_int) (p3_fn h_m_law_draw hr (by decide) rfl (a3_cons (p3_var 2) (a3_cons (p3_int) (a3_nil))) (len_cons (len_cons len_nil))))) (ss3_cons (s3_set 4 sc.nd (p3_fn h_m_law_machine hr (by decide) rfl (a3_cons (p3_var 2) (a3_cons (p3_int) (a3_cons (p3_var 3) (a3_nil)))) (len_cons (len_cons (len_cons len_nil))))) (ss3_cons (s3_set 5 sc.nd (p3_ixA (p3_ixA (p3_var 4) (p3_int)) (p3_fn h_m_law_draw hr (by decide) rfl (a3_cons (p3_var 2) (a3_cons (p3_lenA rfl z_len (a3_cons (p3_ixA (p3_var 4) (p3_int)) (a3_nil))) (a3_nil))) (len_cons (len_cons len_nil))))) (ss3_cons (s3_set 6 sc.nd (p3_ixA (p3_var 5) (p3_fn h_m_law_draw hr (by decide) rfl (a3_cons (p3_var 2) (a3_cons (p3_var 3) (a3_nil))) (len_cons (len_cons len_nil))))) (ss3_cons (s3_set 7 sc.nd (p3_ixA (p3_lst (a3_cons (p3_fn h_m_law_draw hr (by decide) rfl (a3_cons (p3_var 2) (a3_cons (p3_int) (a3_nil))) (len_cons (len_cons len_nil))) (a3_cons (p3_fn h_m_law_draw hr (by decide) rfl (a3_cons (p3_var 2) (a3_cons (p3_int) (a3_nil))) (len_cons (len_cons len_nil))) (a3_cons (p3_int) (a3_nil))))) (p3_ixA (p3_lst (a3_cons (p3_int) (a3_cons (p3_int) (a3_cons (p3_int) (a3_cons (p3_int) (a3_cons (p3_int) (a3_cons (p3_int) (a3_nil)))))))) (p3_fn h_m_law_draw hr (by decide) rfl (a3_cons (p3_var 2) (a3_cons (p3_int) (a3_nil))) (len_cons (len_cons len_nil)))))) (ss3_cons (s3_set 8 sc.nd (p3_tuple1 rfl z_tuple (a3_cons (p3_comp (N' := ["_law_at", "_law_pen_here", "_law_asks"]) (ixs := [none, some 2, some 3]) rfl (compSc_of (scO := defScope (top bd 32)) (NO := ["_law_script", "_law_k", "_law_pen_here", "_law_asks", "_law_machine_here", "_law_room", "_law_cell_here", "_law_long", "_law_row", "_law_again", "_law_text", "_law_told"]) rfl rfl (by decide +kernel)) (i3_rng1 rfl z_range (a3_cons (p3_var 7) (a3_nil))) (fun _ _ _ _ _ => g3_name 0 (show List.Nodup (["_law_at", "_law_pen_here", "_law_asks"] : List Str) by decide +kernel)) (fun _ _ _ _ _ => pts3_nil) (fun _ _ _ _ _ => p3_fn h_m_law_draw hr (by decide) rfl (a3_cons (p3_var 1) (a3_cons (p3_var 2) (a3_nil))) (len_cons (len_cons len_nil)))) (a3_nil)))) (ss3_one (s3_forR1 PassesOwn.never rfl rfl z_range (a3_cons (p3_int) (a3_nil)) (g3_name 9 sc.nd) (ss3_cons (s3_set 10 sc.nd (p3_fn h_m_law_machine_text hr (by decide) rfl (a3_cons (p3_var 4) (a3_nil)) (len_cons len_nil))) (ss3_cons (s3_if (t3_w (w3_or (t3_ne (p3_fn h_m_show_machine hr (by decide) rfl (a3_cons (p3_var 4) (a3_nil)) (len_cons len_nil)) (p3_var 10)) (w3_or1 (t3_ne (p3_repr hr rfl z_repr (a3_cons (p3_fn h_m_read_machine hr (by decide) rfl (a3_cons (p3_var 10) (a3_nil)) (len_cons len_nil)) (a3_nil))) (p3_repr hr rfl z_repr (a3_cons (p3_var 4) (a3_nil))))))) (ss3_one (s3_ret (p3_bl))) (ss3_nil)) (ss3_cons (s3_set 10 sc.nd (p3_fn h_m_law_cell_text hr (by decide) rfl (a3_cons (p3_var 6) (a3_nil)) (len_cons len_nil))) (ss3_cons (s3_if (t3_w (w3_or (t3_ne (p3_fn h_m_show_cell hr (by decide) rfl (a3_cons (p3_var 6) (a3_nil)) (len_cons len_nil)) (p3_var 10)) (w3_or1 (t3_ne (p3_repr hr rfl z_repr (a3_cons (p3_fn h_m_read_cell hr (by decide) rfl (a3_cons (p3_var 10) (a3_nil)) (len_cons len_nil)) (a3_nil))) (p3_repr hr rfl z_repr (a3_cons (p3_var 6) (a3_nil))))))) (ss3_one (s3_ret (p3_bl))) (ss3_nil)) (ss3_cons (s3_set 10 sc.nd (p3_fn h_m_law_row_text hr (by decide) rfl (a3_cons (p3_var 8) (a3_nil)) (len_cons len_nil))) (ss3_cons (s3_set 11 sc.nd (p3_fn h_m_read_row hr (by decide) rfl (a3_cons (p3_var 3) (a3_cons (p3_var 10) (a3_nil))) (len_cons (len_cons len_nil)))) (ss3_one (s3_if (t3_w (w3_or (t3_ne (p3_repr hr rfl z_repr (a3_cons (p3_var 11) (a3_nil))) (p3_repr hr rfl z_repr (a3_cons (p3_var 8) (a3_nil)))) (w3_or (t3_ne (p3_fn h_m_show_row hr (by decide) rfl (a3_cons (p3_var 11) (a3_nil)) (len_cons len_nil)) (p3_var 10)) (w3_or1 (t3_w (w3_and (t3_le (p3_var 7) (p3_int)) (w3_and1 (t3_ne (p3_fn h_m_show_row hr (by decide) rfl (a3_cons (p3_var 8) (a3_nil)) (len_cons len_nil)) (p3_var 10))))))))) (ss3_one (s3_ret (p3_bl))) (ss3_nil))))))))))))))))))) (ss3_one (s3_ret (p3_bl)))
end
theorem all_mk {l : PySem.W.OpenLaw} {w : World} {K : PySem.W.Frag} {h : Heap} {mg : Str → Option Value} {fa : Addr} (X : K.In h) (G : h.Ns mainGlobals mg) (hfa : mg "law" = some (.ref fa)) {f0 f1 f2 f3 f4 f5 f6 f7 f8 f9 f10 f11 f12 f13 f14 f15 f16 f17 f18 f19 f20 f21 f22 f23 : Addr}
    {od0 an0 : Option Addr} {sl0 : Array (Option Value)} {oc0 kV0 dc0 pm0 cd0 ct0 : Value}
    {od1 an1 : Option Addr} {sl1 : Array (Option Value)} {oc1 kV1 dc1 pm1 cd1 ct1 : Value}
    {od2 an2 : Option Addr} {sl2 : Array (Option Value)} {oc2 kV2 dc2 pm2 cd2 ct2 : Value}
    {od3 an3 : Option Addr} {sl3 : Array (Option Value)} {oc3 kV3 dc3 pm3 cd3 ct3 : Value}
    {od4 an4 : Option Addr} {sl4 : Array (Option Value)} {oc4 kV4 dc4 pm4 cd4 ct4 : Value}
    {od5 an5 : Option Addr} {sl5 : Array (Option Value)} {oc5 kV5 dc5 pm5 cd5 ct5 : Value}
    {od6 an6 : Option Addr} {sl6 : Array (Option Value)} {oc6 kV6 dc6 pm6 cd6 ct6 : Value}
    {od7 an7 : Option Addr} {sl7 : Array (Option Value)} {oc7 kV7 dc7 pm7 cd7 ct7 : Value}
    {od8 an8 : Option Addr} {sl8 : Array (Option Value)} {oc8 kV8 dc8 pm8 cd8 ct8 : Value}
    {od9 an9 : Option Addr} {sl9 : Array (Option Value)} {oc9 kV9 dc9 pm9 cd9 ct9 : Value}
    {od10 an10 : Option Addr} {sl10 : Array (Option Value)} {oc10 kV10 dc10 pm10 cd10 ct10 : Value}
    {od11 an11 : Option Addr} {sl11 : Array (Option Value)} {oc11 kV11 dc11 pm11 cd11 ct11 : Value}
    {od12 an12 : Option Addr} {sl12 : Array (Option Value)} {oc12 kV12 dc12 pm12 cd12 ct12 : Value}
    {od13 an13 : Option Addr} {sl13 : Array (Option Value)} {oc13 kV13 dc13 pm13 cd13 ct13 : Value}
    {od14 an14 : Option Addr} {sl14 : Array (Option Value)} {oc14 kV14 dc14 pm14 cd14 ct14 : Value}
    {od15 an15 : Option Addr} {sl15 : Array (Option Value)} {oc15 kV15 dc15 pm15 cd15 ct15 : Value}
    {od16 an16 : Option Addr} {sl16 : Array (Option Value)} {oc16 kV16 dc16 pm16 cd16 ct16 : Value}
    {od17 an17 : Option Addr} {sl17 : Array (Option Value)} {oc17 kV17 dc17 pm17 cd17 ct17 : Value}
    {od18 an18 : Option Addr} {sl18 : Array (Option Value)} {oc18 kV18 dc18 pm18 cd18 ct18 : Value}
    {od19 an19 : Option Addr} {sl19 : Array (Option Value)} {oc19 kV19 dc19 pm19 cd19 ct19 : Value}
    {od20 an20 : Option Addr} {sl20 : Array (Option Value)} {oc20 kV20 dc20 pm20 cd20 ct20 : Value}
    {od21 an21 : Option Addr} {sl21 : Array (Option Value)} {oc21 kV21 dc21 pm21 cd21 ct21 : Value}
    {od22 an22 : Option Addr} {sl22 : Array (Option Value)} {oc22 kV22 dc22 pm22 cd22 ct22 : Value}
    {od23 an23 : Option Addr} {sl23 : Array (Option Value)} {oc23 kV23 dc23 pm23 cd23 ct23 : Value}
    (a0 : PySem.W.nsIn K mainGlobals "show_part" = some (some (.ref f0))) (l0 : K.lookup f0 = some ⟨oc0, od0, .func (PySem.W.fnOf "show_part" "show_part" (defArgs (top bd 12)) (defBody (top bd 12)) (defScope (top bd 12)) .none kV0 dc0 pm0 an0 cd0 ct0), sl0⟩) (c0 : PySem.W.codeIn K cd0 "show_part" = true) (k0 : PySem.W.keepIn K (.ref f0) = true)
    (a1 : PySem.W.nsIn K mainGlobals "show_parts" = some (some (.ref f1))) (l1 : K.lookup f1 = some ⟨oc1, od1, .func (PySem.W.fnOf "show_parts" "show_parts" (defArgs (top bd 16)) (defBody (top bd 16)) (defScope (top bd 16)) .none kV1 dc1 pm1 an1 cd1 ct1), sl1⟩) (c1 : PySem.W.codeIn K cd1 "show_parts" = true) (k1 : PySem.W.keepIn K (.ref f1) = true)
    (a2 : PySem.W.nsIn K mainGlobals "show_row" = some (some (.ref f2))) (l2 : K.lookup f2 = some ⟨oc2, od2, .func (PySem.W.fnOf "show_row" "show_row" (defArgs (top bd 15)) (defBody (top bd 15)) (defScope (top bd 15)) .none kV2 dc2 pm2 an2 cd2 ct2), sl2⟩) (c2 : PySem.W.codeIn K cd2 "show_row" = true) (k2 : PySem.W.keepIn K (.ref f2) = true)
    (a3 : PySem.W.nsIn K mainGlobals "read_number" = some (some (.ref f3))) (l3 : K.lookup f3 = some ⟨oc3, od3, .func (PySem.W.fnOf "read_number" "read_number" (defArgs (top bd 18)) (defBody (top bd 18)) (defScope (top bd 18)) .none kV3 dc3 pm3 an3 cd3 ct3), sl3⟩) (c3 : PySem.W.codeIn K cd3 "read_number" = true) (k3 : PySem.W.keepIn K (.ref f3) = true)
    (a4 : PySem.W.nsIn K mainGlobals "refuse_no_text" = some (some (.ref f4))) (l4 : K.lookup f4 = some ⟨oc4, od4, .func (PySem.W.fnOf "refuse_no_text" "refuse_no_text" (defArgs (top bd 17)) (defBody (top bd 17)) (defScope (top bd 17)) .none kV4 dc4 pm4 an4 cd4 ct4), sl4⟩) (c4 : PySem.W.codeIn K cd4 "refuse_no_text" = true) (k4 : PySem.W.keepIn K (.ref f4) = true)
    (a5 : PySem.W.nsIn K mainGlobals "read_row" = some (some (.ref f5))) (l5 : K.lookup f5 = some ⟨oc5, od5, .func (PySem.W.fnOf "read_row" "read_row" (defArgs (top bd 22)) (defBody (top bd 22)) (defScope (top bd 22)) .none kV5 dc5 pm5 an5 cd5 ct5), sl5⟩) (c5 : PySem.W.codeIn K cd5 "read_row" = true) (k5 : PySem.W.keepIn K (.ref f5) = true)
    (a6 : PySem.W.nsIn K mainGlobals "_law_row_text" = some (some (.ref f6))) (l6 : K.lookup f6 = some ⟨oc6, od6, .func (PySem.W.fnOf "_law_row_text" "_law_row_text" (defArgs (top bd 31)) (defBody (top bd 31)) (defScope (top bd 31)) .none kV6 dc6 pm6 an6 cd6 ct6), sl6⟩) (c6 : PySem.W.codeIn K cd6 "_law_row_text" = true) (k6 : PySem.W.keepIn K (.ref f6) = true)
    (a7 : PySem.W.nsIn K mainGlobals "show_cell" = some (some (.ref f7))) (l7 : K.lookup f7 = some ⟨oc7, od7, .func (PySem.W.fnOf "show_cell" "show_cell" (defArgs (top bd 13)) (defBody (top bd 13)) (defScope (top bd 13)) .none kV7 dc7 pm7 an7 cd7 ct7), sl7⟩) (c7 : PySem.W.codeIn K cd7 "show_cell" = true) (k7 : PySem.W.keepIn K (.ref f7) = true)
    (a8 : PySem.W.nsIn K mainGlobals "read_part" = some (some (.ref f8))) (l8 : K.lookup f8 = some ⟨oc8, od8, .func (PySem.W.fnOf "read_part" "read_part" (defArgs (top bd 19)) (defBody (top bd 19)) (defScope (top bd 19)) .none kV8 dc8 pm8 an8 cd8 ct8), sl8⟩) (c8 : PySem.W.codeIn K cd8 "read_part" = true) (k8 : PySem.W.keepIn K (.ref f8) = true)
    (a9 : PySem.W.nsIn K mainGlobals "read_cell" = some (some (.ref f9))) (l9 : K.lookup f9 = some ⟨oc9, od9, .func (PySem.W.fnOf "read_cell" "read_cell" (defArgs (top bd 20)) (defBody (top bd 20)) (defScope (top bd 20)) .none kV9 dc9 pm9 an9 cd9 ct9), sl9⟩) (c9 : PySem.W.codeIn K cd9 "read_cell" = true) (k9 : PySem.W.keepIn K (.ref f9) = true)
    (a10 : PySem.W.nsIn K mainGlobals "_law_part_text" = some (some (.ref f10))) (l10 : K.lookup f10 = some ⟨oc10, od10, .func (PySem.W.fnOf "_law_part_text" "_law_part_text" (defArgs (top bd 28)) (defBody (top bd 28)) (defScope (top bd 28)) .none kV10 dc10 pm10 an10 cd10 ct10), sl10⟩) (c10 : PySem.W.codeIn K cd10 "_law_part_text" = true) (k10 : PySem.W.keepIn K (.ref f10) = true)
    (a11 : PySem.W.nsIn K mainGlobals "_law_cell_text" = some (some (.ref f11))) (l11 : K.lookup f11 = some ⟨oc11, od11, .func (PySem.W.fnOf "_law_cell_text" "_law_cell_text" (defArgs (top bd 29)) (defBody (top bd 29)) (defScope (top bd 29)) .none kV11 dc11 pm11 an11 cd11 ct11), sl11⟩) (c11 : PySem.W.codeIn K cd11 "_law_cell_text" = true) (k11 : PySem.W.keepIn K (.ref f11) = true)
    (a12 : PySem.W.nsIn K mainGlobals "show_machine" = some (some (.ref f12))) (l12 : K.lookup f12 = some ⟨oc12, od12, .func (PySem.W.fnOf "show_machine" "show_machine" (defArgs (top bd 14)) (defBody (top bd 14)) (defScope (top bd 14)) .none kV12 dc12 pm12 an12 cd12 ct12), sl12⟩) (c12 : PySem.W.codeIn K cd12 "show_machine" = true) (k12 : PySem.W.keepIn K (.ref f12) = true)
    (a13 : PySem.W.nsIn K mainGlobals "is_below" = some (some (.ref f13))) (l13 : K.lookup f13 = some ⟨oc13, od13, .func (PySem.W.fnOf "is_below" "is_below" (defArgs (top bd 7)) (defBody (top bd 7)) (defScope (top bd 7)) .none kV13 dc13 pm13 an13 cd13 ct13), sl13⟩) (c13 : PySem.W.codeIn K cd13 "is_below" = true) (k13 : PySem.W.keepIn K (.ref f13) = true)
    (a14 : PySem.W.nsIn K mainGlobals "is_cell" = some (some (.ref f14))) (l14 : K.lookup f14 = some ⟨oc14, od14, .func (PySem.W.fnOf "is_cell" "is_cell" (defArgs (top bd 10)) (defBody (top bd 10)) (defScope (top bd 10)) .none kV14 dc14 pm14 an14 cd14 ct14), sl14⟩) (c14 : PySem.W.codeIn K cd14 "is_cell" = true) (k14 : PySem.W.keepIn K (.ref f14) = true)
    (a15 : PySem.W.nsIn K mainGlobals "is_room" = some (some (.ref f15))) (l15 : K.lookup f15 = some ⟨oc15, od15, .func (PySem.W.fnOf "is_room" "is_room" (defArgs (top bd 9)) (defBody (top bd 9)) (defScope (top bd 9)) .none kV15 dc15 pm15 an15 cd15 ct15), sl15⟩) (c15 : PySem.W.codeIn K cd15 "is_room" = true) (k15 : PySem.W.keepIn K (.ref f15) = true)
    (a16 : PySem.W.nsIn K mainGlobals "is_machine" = some (some (.ref f16))) (l16 : K.lookup f16 = some ⟨oc16, od16, .func (PySem.W.fnOf "is_machine" "is_machine" (defArgs (top bd 8)) (defBody (top bd 8)) (defScope (top bd 8)) .none kV16 dc16 pm16 an16 cd16 ct16), sl16⟩) (c16 : PySem.W.codeIn K cd16 "is_machine" = true) (k16 : PySem.W.keepIn K (.ref f16) = true)
    (a17 : PySem.W.nsIn K mainGlobals "read_machine" = some (some (.ref f17))) (l17 : K.lookup f17 = some ⟨oc17, od17, .func (PySem.W.fnOf "read_machine" "read_machine" (defArgs (top bd 21)) (defBody (top bd 21)) (defScope (top bd 21)) .none kV17 dc17 pm17 an17 cd17 ct17), sl17⟩) (c17 : PySem.W.codeIn K cd17 "read_machine" = true) (k17 : PySem.W.keepIn K (.ref f17) = true)
    (a18 : PySem.W.nsIn K mainGlobals "_law_machine_text" = some (some (.ref f18))) (l18 : K.lookup f18 = some ⟨oc18, od18, .func (PySem.W.fnOf "_law_machine_text" "_law_machine_text" (defArgs (top bd 30)) (defBody (top bd 30)) (defScope (top bd 30)) .none kV18 dc18 pm18 an18 cd18 ct18), sl18⟩) (c18 : PySem.W.codeIn K cd18 "_law_machine_text" = true) (k18 : PySem.W.keepIn K (.ref f18) = true)
    (a19 : PySem.W.nsIn K mainGlobals "_law_draw" = some (some (.ref f19))) (l19 : K.lookup f19 = some ⟨oc19, od19, .func (PySem.W.fnOf "_law_draw" "_law_draw" (defArgs (top bd 25)) (defBody (top bd 25)) (defScope (top bd 25)) .none kV19 dc19 pm19 an19 cd19 ct19), sl19⟩) (c19 : PySem.W.codeIn K cd19 "_law_draw" = true) (k19 : PySem.W.keepIn K (.ref f19) = true)
    (a20 : PySem.W.nsIn K mainGlobals "_law_cell" = some (some (.ref f20))) (l20 : K.lookup f20 = some ⟨oc20, od20, .func (PySem.W.fnOf "_law_cell" "_law_cell" (defArgs (top bd 26)) (defBody (top bd 26)) (defScope (top bd 26)) .none kV20 dc20 pm20 an20 cd20 ct20), sl20⟩) (c20 : PySem.W.codeIn K cd20 "_law_cell" = true) (k20 : PySem.W.keepIn K (.ref f20) = true)
    (a21 : PySem.W.nsIn K mainGlobals "_law_machine" = some (some (.ref f21))) (l21 : K.lookup f21 = some ⟨oc21, od21, .func (PySem.W.fnOf "_law_machine" "_law_machine" (defArgs (top bd 27)) (defBody (top bd 27)) (defScope (top bd 27)) .none kV21 dc21 pm21 an21 cd21 ct21), sl21⟩) (c21 : PySem.W.codeIn K cd21 "_law_machine" = true) (k21 : PySem.W.keepIn K (.ref f21) = true)
    (a22 : PySem.W.nsIn K mainGlobals "_law_pen" = some (some (.ref f22))) (l22 : K.lookup f22 = some ⟨oc22, od22, .func (PySem.W.fnOf "_law_pen" "_law_pen" (defArgs (top bd 24)) (defBody (top bd 24)) (defScope (top bd 24)) .none kV22 dc22 pm22 an22 cd22 ct22), sl22⟩) (c22 : PySem.W.codeIn K cd22 "_law_pen" = true) (k22 : PySem.W.keepIn K (.ref f22) = true)
    (a23 : PySem.W.nsIn K mainGlobals "law" = some (some (.ref f23))) (l23 : K.lookup f23 = some ⟨oc23, od23, .func (PySem.W.fnOf "law" "law" (defArgs (top bd 32)) (defBody (top bd 32)) (defScope (top bd 32)) .none kV23 dc23 pm23 an23 cd23 ct23), sl23⟩) (c23 : PySem.W.codeIn K cd23 "law" = true) (k23 : PySem.W.keepIn K (.ref f23) = true)
    (z_str : PySem.W.nsIn K mainGlobals "str" = some none)
    (z_range : PySem.W.nsIn K mainGlobals "range" = some none)
    (z_isinstance : PySem.W.nsIn K mainGlobals "isinstance" = some none)
    (z_tuple : PySem.W.nsIn K mainGlobals "tuple" = some none)
    (z_len : PySem.W.nsIn K mainGlobals "len" = some none)
    (z_int : PySem.W.nsIn K mainGlobals "int" = some none)
    (z_bool : PySem.W.nsIn K mainGlobals "bool" = some none)
    (z_all : PySem.W.nsIn K mainGlobals "all" = some none)
    (z_list : PySem.W.nsIn K mainGlobals "list" = some none)
    (z_repr : PySem.W.nsIn K mainGlobals "repr" = some none)
    (z_max : PySem.W.nsIn K mainGlobals "max" = some none)
    (z_min : PySem.W.nsIn K mainGlobals "min" = some none)
    {t_ANSWERS : Tok} (c_ANSWERS : PySem.W.nsIn K mainGlobals "ANSWERS" = some (some (.int 8 t_ANSWERS)))
    {t_MOST_ROOMS : Tok} (c_MOST_ROOMS : PySem.W.nsIn K mainGlobals "MOST_ROOMS" = some (some (.int 24 t_MOST_ROOMS)))
    {t_MOST_ASKS : Tok} (c_MOST_ASKS : PySem.W.nsIn K mainGlobals "MOST_ASKS" = some (some (.int 4 t_MOST_ASKS))) :
    ∃ fd : FuncData, (∀ (s : Shared) (v : Value), BindsTo s fd ⟨[v], []⟩ [("_law_script", v)]) ∧ ∀ base : Heap, K.In base → base.Ns mainGlobals mg → FnOk l.prog w K mg base CX0 6 fa fd ["_law_script"] (sp3 K 1 m_law) := by
  have y_str := PySem.W.mg_none_of X G z_str
  have y_range := PySem.W.mg_none_of X G z_range
  have y_isinstance := PySem.W.mg_none_of X G z_isinstance
  have y_tuple := PySem.W.mg_none_of X G z_tuple
  have y_len := PySem.W.mg_none_of X G z_len
  have y_int := PySem.W.mg_none_of X G z_int
  have y_bool := PySem.W.mg_none_of X G z_bool
  have y_all := PySem.W.mg_none_of X G z_all
  have y_list := PySem.W.mg_none_of X G z_list
  have y_repr := PySem.W.mg_none_of X G z_repr
  have y_max := PySem.W.mg_none_of X G z_max
  have y_min := PySem.W.mg_none_of X G z_min
  have y_ANSWERS : ∃ t, mg "ANSWERS" = some (.int 8 t) := ⟨_, PySem.W.mg_of X G c_ANSWERS⟩
  have y_MOST_ROOMS : ∃ t, mg "MOST_ROOMS" = some (.int 24 t) := ⟨_, PySem.W.mg_of X G c_MOST_ROOMS⟩
  have y_MOST_ASKS : ∃ t, mg "MOST_ASKS" = some (.int 4 t) := ⟨_, PySem.W.mg_of X G c_MOST_ASKS⟩
  have e := hfa.symm.trans (PySem.W.mg_of X G a23)
  cases e
  have F0 := fun_mk (st := top bd 12) l0 c0 k0
  have F1 := fun_mk (st := top bd 16) l1 c1 k1
  have F2 := fun_mk (st := top bd 15) l2 c2 k2
  have F3 := fun_mk (st := top bd 18) l3 c3 k3
  have F4 := fun_mk (st := top bd 17) l4 c4 k4
  have F5 := fun_mk (st := top bd 22) l5 c5 k5
  have F6 := fun_mk (st := top bd 31) l6 c6 k6
  have F7 := fun_mk (st := top bd 13) l7 c7 k7
  have F8 := fun_mk (st := top bd 19) l8 c8 k8
  have F9 := fun_mk (st := top bd 20) l9 c9 k9
  have F10 := fun_mk (st := top bd 28) l10 c10 k10
  have F11 := fun_mk (st := top bd 29) l11 c11 k11
  have F12 := fun_mk (st := top bd 14) l12 c12 k12
  have F13 := fun_mk (st := top bd 7) l13 c13 k13
  have F14 := fun_mk (st := top bd 10) l14 c14 k14
  have F15 := fun_mk (st := top bd 9) l15 c15 k15
  have F16 := fun_mk (st := top bd 8) l16 c16 k16
  have F17 := fun_mk (st := top bd 21) l17 c17 k17
  have F18 := fun_mk (st := top bd 30) l18 c18 k18
  have F19 := fun_mk (st := top bd 25) l19 c19 k19
  have F20 := fun_mk (st := top bd 26) l20 c20 k20
  have F21 := fun_mk (st := top bd 27) l21 c21 k21
  have F22 := fun_mk (st := top bd 24) l22 c22 k22
  have F23 := fun_mk (st := top bd 32) l23 c23 k23
  refine ⟨PySem.W.fnOf "law" "law" (defArgs (top bd 32)) (defBody (top bd 32)) (defScope (top bd 32)) .none kV23 dc23 pm23 an23 cd23 ct23, fun s v => .of_eq rfl, fun base _ _ => ?_⟩
  have g0 : Has l.prog w K mg base "show_part" 1 1 m_show_part := h_m_show_part F0 (PySem.W.mg_of X G a0) y_str
  have g1 : Has l.prog w K mg base "show_parts" 2 1 m_show_parts := h_m_show_parts F1 (PySem.W.mg_of X G a1) g0
  have g2 : Has l.prog w K mg base "show_row" 3 1 m_show_row := h_m_show_row F2 (PySem.W.mg_of X G a2) g1
  have g3 : Has l.prog w K mg base "read_number" 1 2 m_read_number := h_m_read_number F3 (PySem.W.mg_of X G a3) y_str y_range
  have g4 : Has l.prog w K mg base "refuse_no_text" 1 1 m_refuse_no_text := h_m_refuse_no_text F4 (PySem.W.mg_of X G a4) y_isinstance y_str
  have g5 : Has l.prog w K mg base "read_row" 2 2 m_read_row := h_m_read_row F5 (PySem.W.mg_of X G a5) y_tuple g3 g4
  have g6 : Has l.prog w K mg base "_law_row_text" 1 1 m_law_row_text := h_m_law_row_text F6 (PySem.W.mg_of X G a6) y_str
  have g7 : Has l.prog w K mg base "show_cell" 2 1 m_show_cell := h_m_show_cell F7 (PySem.W.mg_of X G a7) g0
  have g8 : Has l.prog w K mg base "read_part" 2 2 m_read_part := h_m_read_part F8 (PySem.W.mg_of X G a8) g3
  have g9 : Has l.prog w K mg base "read_cell" 3 1 m_read_cell := h_m_read_cell F9 (PySem.W.mg_of X G a9) y_len y_ANSWERS y_MOST_ROOMS g8 g4
  have g10 : Has l.prog w K mg base "_law_part_text" 1 1 m_law_part_text := h_m_law_part_text F10 (PySem.W.mg_of X G a10) y_str
  have g11 : Has l.prog w K mg base "_law_cell_text" 2 1 m_law_cell_text := h_m_law_cell_text F11 (PySem.W.mg_of X G a11) g10
  have g12 : Has l.prog w K mg base "show_machine" 3 1 m_show_machine := h_m_show_machine F12 (PySem.W.mg_of X G a12) g7
  have g13 : Has l.prog w K mg base "is_below" 1 2 m_is_below := h_m_is_below F13 (PySem.W.mg_of X G a13) y_isinstance y_int y_bool
  have g14 : Has l.prog w K mg base "is_cell" 2 2 m_is_cell := h_m_is_cell F14 (PySem.W.mg_of X G a14) y_isinstance y_tuple y_len y_ANSWERS g13
  have g15 : Has l.prog w K mg base "is_room" 3 3 m_is_room := h_m_is_room F15 (PySem.W.mg_of X G a15) y_all y_isinstance y_tuple y_len g14
  have g16 : Has l.prog w K mg base "is_machine" 4 1 m_is_machine := h_m_is_machine F16 (PySem.W.mg_of X G a16) y_all y_len y_isinstance y_tuple y_MOST_ROOMS y_MOST_ASKS g15 g13
  have g17 : Has l.prog w K mg base "read_machine" 5 1 m_read_machine := h_m_read_machine F17 (PySem.W.mg_of X G a17) y_tuple y_MOST_ASKS g16 g9 g3 g4
  have g18 : Has l.prog w K mg base "_law_machine_text" 3 1 m_law_machine_text := h_m_law_machine_text F18 (PySem.W.mg_of X G a18) y_str g11
  have g19 : Has l.prog w K mg base "_law_draw" 1 2 m_law_draw := h_m_law_draw F19 (PySem.W.mg_of X G a19)
  have g20 : Has l.prog w K mg base "_law_cell" 2 4 m_law_cell := h_m_law_cell F20 (PySem.W.mg_of X G a20) g19
  have g21 : Has l.prog w K mg base "_law_machine" 3 3 m_law_machine := h_m_law_machine F21 (PySem.W.mg_of X G a21) y_tuple y_list y_range g19 g20
  have g22 : Has l.prog w K mg base "_law_pen" 1 2 m_law_pen := h_m_law_pen F22 (PySem.W.mg_of X G a22) y_len
  exact law_fn F23 y_repr y_range y_tuple y_len y_max y_min g2 g5 g6 g7 g9 g11 g12 g17 g18 g19 g21 g22
theorem walk {l : PySem.W.OpenLaw} {q : Program} {loose : List Str} {XP : (Str → Option Value) → Heap → Prop} {YP : World → Heap → Prop} {d : DefRec} {K : Params → PySem.W.Frag} (hn : l.most = some 63) (hdf : d.params.defaults = [])
    (hY : ∀ (w : World) (h : Heap), YP w h → (K w.params).In h)
    (F : ∀ (w : World) (mg : Str → Option Value) (fa : Addr) (h : Heap), (K w.params).In h → h.Ns mainGlobals mg → mg d.name = some (.ref fa) →
      ∃ fd : FuncData, (∀ (s : Shared) (u : Value), BindsTo s fd ⟨[u], []⟩ [("_law_script", u)]) ∧ ∀ base : Heap, (K w.params).In base → base.Ns mainGlobals mg → FnOk l.prog w (K w.params) mg base CX0 6 fa fd ["_law_script"] (sp3 (K w.params) 1 m_law))
    (hlaw : ∀ ns : List Int, ns.length ≤ 63 → ∃ S', m_law [.ref 0] [.flst (ns.map D.int)] = some (.bl true, S')) :
    PySem.W.WalkO q loose XP YP l.row.toRowW d [] (fun f vs => PySem.call f vs) :=
  L2.walk_of (n := 63) (k := 6) (x := "_law_script") (CX := fun _ => CX0) (sp := fun w => sp3 (K w.params) 1 m_law) hn (by decide) hdf ⟨rfl, by decide, by decide, rfl⟩ hY F (fun _ _ a ns hl hO hS => law_sp hO hS (hlaw ns hl)) fun _ _ _ _ _ z => z
end G
end
namespace M
open PySem L3 G
theorem as1 {e : EM} {l : Lo} {S S1 : Sto} {x : D} (h : e l S = some (x, S1)) : aCons e aNil l S = some ([x], S1) := by
  unfold aCons; rw [h]; rfl
theorem lst_of {S : Sto} {n : Nat} {xs : List D} (h : S[n]? = some (.lst xs)) : lstOf S n = some xs := by unfold lstOf; rw [h]
theorem get_set {S : Sto} {n : Nat} {o o' : Ob} (h : S[n]? = some o') : (S.set n o)[n]? = some o := List.getElem?_set_self (List.getElem?_eq_some_iff.mp h).1
noncomputable def PQ (n : Nat) (S : Sto) : Prop := ∃ x y z : Int, S[n]? = some (.lst [.int x, .int y, .int z]) ∧ 0 ≤ x ∧ 0 ≤ y ∧ y < 2147483587 ∧ 0 ≤ z
noncomputable def Fn (n : Nat) (S S' : Sto) : Prop := ∀ (j : Nat) (o : Ob), j ≠ n → S[j]? = some o → S'[j]? = some o
theorem Fn.refl (n : Nat) (S : Sto) : Fn n S S := fun _ _ _ h => h
theorem Fn.trans {n : Nat} {A B C : Sto} (h : Fn n A B) (g : Fn n B C) : Fn n A C := fun j o hj e => g j o hj (h j o hj e)
theorem Fn.gr {n : Nat} {A B : Sto} (h : Gr A B) : Fn n A B := fun _ _ _ e => h.get e
theorem Fn.set {n : Nat} {A : Sto} {o : Ob} : Fn n A (A.set n o) := fun j o' hj e => by rw [List.getElem?_set_ne (Ne.symm hj)]; exact e
theorem Fn.lst {n m : Nat} {A B : Sto} {xs : List D} (h : Fn n A B) (hm : m ≠ n) (e : lstOf A m = some xs) : lstOf B m = some xs := by
  unfold lstOf at e ⊢
  cases q : A[m]? with
  | none => rw [q] at e; cases e
  | some o => rw [h m o hm q]; rw [q] at e; exact e
theorem PQ.gr {n : Nat} {A B : Sto} (h : PQ n A) (g : Gr A B) : PQ n B := let ⟨x, y, z, e, r⟩ := h; ⟨x, y, z, g.get e, r⟩
theorem PQ.lt {n : Nat} {A : Sto} (h : PQ n A) : n < A.length := let ⟨x, y, z, e, r⟩ := h; (List.getElem?_eq_some_iff.mp e).1
theorem set_0 {S : Sto} {n : Nat} {a b c v : D} (h : S[n]? = some (.lst [a, b, c])) : setIx (.ref n) (.int 0) v S = some (S.set n (.lst [v, b, c])) := by
  unfold setIx; simp only [h]; rfl
theorem set_2 {S : Sto} {n : Nat} {a b c v : D} (h : S[n]? = some (.lst [a, b, c])) : setIx (.ref n) (.int 2) v S = some (S.set n (.lst [a, b, v])) := by
  unfold setIx; simp only [h]; rfl
theorem prime_at (i : Int) (h0 : 0 ≤ i) (h1 : i < 3) : ∃ p, L2.atI [D.int 2147483647, .int 2147483563, .int 2147483549] i = some (.int p) ∧ 0 < p ∧ p < 2147483648 := by
  have : i = 0 ∨ i = 1 ∨ i = 2 := by omega
  rcases this with rfl | rfl | rfl <;> exact ⟨_, rfl, by decide, by decide⟩
theorem draw_ok (n : Nat) (m : Int) (S : Sto) (h : PQ n S) (h1 : 0 < m) (h2 : m < 1073741824) : Wo (m_law_draw [.ref n, .int m] S) fun v S' => (∃ d : Nat, v = .int d ∧ (d : Int) < m) ∧ PQ n S' ∧ Fn n S S' := by
  obtain ⟨x, y, z, hS, x0, y0, y1, z0⟩ := h
  have sz3 : 3 ≤ sizeLine := by decide
  unfold m_law_draw b_law_draw
  simp only [wo_run, List.map_cons, List.map_nil, List.length_cons, List.length_nil, Nat.reduceAdd, Nat.reduceSub, List.replicate, List.cons_append, List.nil_append]
  refine ws_cut (fun l S' => S' = S.set n (.lst [.int x, .int y, .int (z + 1)]) ∧ l = [some (.ref n), some (.int m), none, none]) ?_ ?_
  · simp only [wo_run, ws_seq, ws_if, wt_e, we_op, we_un, we_var, we_c, ws_asg, ws_ret, ws_drop, ws_next, ws_break, ws_cont, wg_name, wg_sub, wg_tup, wg_nil, wg_cons, wg_dput, we_call, we_methL, we_methS, wa_cons, wa_nil, wt_and, wt_or, wt_not, we_and, we_or, we_not, we_if, wo_I0, wo_I, wo_plusAI, wo_plusAT, we_slA, wp_none, wp_some, ex_int1, wo_slT, wo_intAB, wo_times, wo_ixT, wo_ixL, wo_ixAT, wo_ixAL, wo_ixAS, wo_lenT, wo_lenL, wo_lenAT, wo_lenAL, wo_lenAS, wo_abs, wo_intB, wo_tup, wo_lst, wo_tupleL, wo_eqI, wo_eqB, wo_eqSt, wo_neS, wo_neB, wo_neI, wo_is, wo_isnot, wo_str, wo_isI_bl, wo_isI_int, wo_isI_str, wo_isI_tup, wo_isI_non, isI_same, List.map_cons, List.map_nil, List.length_cons, List.length_nil, Nat.reduceAdd, Nat.reduceSub, List.replicate, List.cons_append, List.nil_append, List.getElem?_cons_zero, List.getElem?_cons_succ, List.set_cons_zero, List.set_cons_succ, ex_some, ex_some1, ex_bl, ex_int, at3_0, at3_1, at3_2, at2_0, at2_1, lstOf_last, decide_eq_true_eq, lst_of hS, set_2 hS, and_self]
  rintro l S1 ⟨rfl, rfl⟩
  have hS1 : (S.set n (.lst [.int x, .int y, .int (z + 1)]))[n]? = some (.lst [.int x, .int y, .int (z + 1)]) := get_set hS
  have f1 : Fn n S (S.set n (.lst [.int x, .int y, .int (z + 1)])) := Fn.set
  generalize S.set n (.lst [.int x, .int y, .int (z + 1)]) = S1 at hS1 f1
  rw [ws_seq]
  by_cases hx : 0 < x
  · simp only [wo_run, ws_seq, ws_if, wt_e, we_op, we_un, we_var, we_c, ws_asg, ws_ret, ws_drop, ws_next, ws_break, ws_cont, wg_name, wg_sub, wg_tup, wg_nil, wg_cons, wg_dput, we_call, we_methL, we_methS, wa_cons, wa_nil, wt_and, wt_or, wt_not, we_and, we_or, we_not, we_if, wo_I0, wo_I, wo_plusAI, wo_plusAT, we_slA, wp_none, wp_some, ex_int1, wo_slT, wo_intAB, wo_times, wo_ixT, wo_ixL, wo_ixAT, wo_ixAL, wo_ixAS, wo_lenT, wo_lenL, wo_lenAT, wo_lenAL, wo_lenAS, wo_abs, wo_intB, wo_tup, wo_lst, wo_tupleL, wo_eqI, wo_eqB, wo_eqSt, wo_neS, wo_neB, wo_neI, wo_is, wo_isnot, wo_str, wo_isI_bl, wo_isI_int, wo_isI_str, wo_isI_tup, wo_isI_non, isI_same, List.map_cons, List.map_nil, List.length_cons, List.length_nil, Nat.reduceAdd, Nat.reduceSub, List.replicate, List.cons_append, List.nil_append, List.getElem?_cons_zero, List.getElem?_cons_succ, List.set_cons_zero, List.set_cons_succ, ex_some, ex_some1, ex_bl, ex_int, at3_0, at3_1, at3_2, at2_0, at2_1, lstOf_last, decide_eq_true_eq, lst_of hS1, hx, decide_true, if_true, h1, h2, true_and, and_self, set_0 hS1]
    have d0 := Int.emod_nonneg x (show m ≠ 0 by omega)
    have d1 := Int.emod_lt_of_pos x h1
    refine ⟨⟨(x % m).toNat, by rw [Int.toNat_of_nonneg d0], by rw [Int.toNat_of_nonneg d0]; exact d1⟩, ⟨x / m, y, z + 1, get_set hS1, Int.ediv_nonneg x0 (by omega), y0, y1, by omega⟩, f1.trans Fn.set⟩
  · simp only [ws_if, wt_e, we_op, we_var, we_c, List.getElem?_cons_zero, ex_some, wo_ixAL, lst_of hS1, ex_some1, at3_0, wo_I0, ex_bl, hx, decide_false, Bool.false_eq_true, if_false, ws_next]
    refine ws_cut (fun l S' => S' = S1 ∧ ∃ a : Int, 0 ≤ a ∧ a < 2147483629 ∧ l = [some (.ref n), some (.int m), none, some (.int a)]) ?_ ?_
    · have f0 : (0 : Int) < 2147483629 := by decide
      have c1 : (-(2 ^ 64) < (40503 : Int) ∧ (40503 : Int) < 2 ^ 64) := by decide
      have c2 : (-(2 ^ 64) < y + 29 ∧ y + 29 < 2 ^ 64) := by omega
      simp only [wo_run, ws_seq, ws_if, wt_e, we_op, we_un, we_var, we_c, ws_asg, ws_ret, ws_drop, ws_next, ws_break, ws_cont, wg_name, wg_sub, wg_tup, wg_nil, wg_cons, wg_dput, we_call, we_methL, we_methS, wa_cons, wa_nil, wt_and, wt_or, wt_not, we_and, we_or, we_not, we_if, wo_I0, wo_I, wo_plusAI, wo_plusAT, we_slA, wp_none, wp_some, ex_int1, wo_slT, wo_intAB, wo_times, wo_ixT, wo_ixL, wo_ixAT, wo_ixAL, wo_ixAS, wo_lenT, wo_lenL, wo_lenAT, wo_lenAL, wo_lenAS, wo_abs, wo_intB, wo_tup, wo_lst, wo_tupleL, wo_eqI, wo_eqB, wo_eqSt, wo_neS, wo_neB, wo_neI, wo_is, wo_isnot, wo_str, wo_isI_bl, wo_isI_int, wo_isI_str, wo_isI_tup, wo_isI_non, isI_same, List.map_cons, List.map_nil, List.length_cons, List.length_nil, Nat.reduceAdd, Nat.reduceSub, List.replicate, List.cons_append, List.nil_append, List.getElem?_cons_zero, List.getElem?_cons_succ, List.set_cons_zero, List.set_cons_succ, ex_some, ex_some1, ex_bl, ex_int, at3_0, at3_1, at3_2, at2_0, at2_1, lstOf_last, decide_eq_true_eq, lst_of hS1, f0, c1, c2, true_or, true_and, and_self]
      first | exact ⟨(by first | rfl | trivial), (by first | rfl | trivial), _, Int.emod_nonneg _ (by decide), Int.emod_lt_of_pos _ (by decide), rfl⟩ | exact ⟨_, Int.emod_nonneg _ (by decide), Int.emod_lt_of_pos _ (by decide), rfl⟩
    rintro l S2 ⟨rfl, a, a0, a1, rfl⟩
    refine ws_cut (fun l S' => S' = S2 ∧ ∃ a : Int, 0 ≤ a ∧ a < 2147483587 ∧ l = [some (.ref n), some (.int m), none, some (.int a)]) ?_ ?_
    · have f0 : (0 : Int) < 2147483587 := by decide
      have c1 : (-(2 ^ 64) < (69621 : Int) ∧ (69621 : Int) < 2 ^ 64) := by decide
      have c2 : (0 : Int) ≤ 3 ∧ (3 : Int) ≤ 1000000 ∧ a.natAbs < 2 ^ 64 := ⟨by decide, by decide, by omega⟩
      simp only [wo_run, ws_seq, ws_if, wt_e, we_op, we_un, we_var, we_c, ws_asg, ws_ret, ws_drop, ws_next, ws_break, ws_cont, wg_name, wg_sub, wg_tup, wg_nil, wg_cons, wg_dput, we_call, we_methL, we_methS, wa_cons, wa_nil, wt_and, wt_or, wt_not, we_and, we_or, we_not, we_if, wo_I0, wo_I, wo_plusAI, wo_plusAT, we_slA, wp_none, wp_some, ex_int1, wo_slT, wo_intAB, wo_times, wo_ixT, wo_ixL, wo_ixAT, wo_ixAL, wo_ixAS, wo_lenT, wo_lenL, wo_lenAT, wo_lenAL, wo_lenAS, wo_abs, wo_intB, wo_tup, wo_lst, wo_tupleL, wo_eqI, wo_eqB, wo_eqSt, wo_neS, wo_neB, wo_neI, wo_is, wo_isnot, wo_str, wo_isI_bl, wo_isI_int, wo_isI_str, wo_isI_tup, wo_isI_non, isI_same, List.map_cons, List.map_nil, List.length_cons, List.length_nil, Nat.reduceAdd, Nat.reduceSub, List.replicate, List.cons_append, List.nil_append, List.getElem?_cons_zero, List.getElem?_cons_succ, List.set_cons_zero, List.set_cons_succ, ex_some, ex_some1, ex_bl, ex_int, at3_0, at3_1, at3_2, at2_0, at2_1, lstOf_last, decide_eq_true_eq, lst_of hS1, f0, c1, c2, true_or, true_and, and_self]
      first | exact ⟨(by first | rfl | trivial), (by first | rfl | trivial), _, Int.emod_nonneg _ (by decide), Int.emod_lt_of_pos _ (by decide), rfl⟩ | exact ⟨_, Int.emod_nonneg _ (by decide), Int.emod_lt_of_pos _ (by decide), rfl⟩
    rintro l S3 ⟨rfl, b, b0, b1, rfl⟩
    refine ws_cut (fun l S' => Gr S3 S' ∧ ∃ a : Int, 0 ≤ a ∧ l = [some (.ref n), some (.int m), none, some (.int a)]) ?_ ?_
    · obtain ⟨p, hp, p0, p1⟩ := prime_at ((z + 1) % 3) (by omega) (by omega)
      have f3 : (0 : Int) < 3 := by decide
      have c2 : (0 : Int) ≤ 5 ∧ (5 : Int) ≤ 1000000 ∧ b.natAbs < 2 ^ 64 := ⟨by decide, by decide, by omega⟩
      have e1 : lstOf (S3 ++ [.lst [.int 2147483647, .int 2147483563, .int 2147483549]]) n = some [.int x, .int y, .int (z + 1)] := Gr.lst ⟨_, rfl⟩ (lst_of hS1)
      simp only [wo_run, ws_seq, ws_if, wt_e, we_op, we_un, we_var, we_c, ws_asg, ws_ret, ws_drop, ws_next, ws_break, ws_cont, wg_name, wg_sub, wg_tup, wg_nil, wg_cons, wg_dput, we_call, we_methL, we_methS, wa_cons, wa_nil, wt_and, wt_or, wt_not, we_and, we_or, we_not, we_if, wo_I0, wo_I, wo_plusAI, wo_plusAT, we_slA, wp_none, wp_some, ex_int1, wo_slT, wo_intAB, wo_times, wo_ixT, wo_ixL, wo_ixAT, wo_ixAL, wo_ixAS, wo_lenT, wo_lenL, wo_lenAT, wo_lenAL, wo_lenAS, wo_abs, wo_intB, wo_tup, wo_lst, wo_tupleL, wo_eqI, wo_eqB, wo_eqSt, wo_neS, wo_neB, wo_neI, wo_is, wo_isnot, wo_str, wo_isI_bl, wo_isI_int, wo_isI_str, wo_isI_tup, wo_isI_non, isI_same, List.map_cons, List.map_nil, List.length_cons, List.length_nil, Nat.reduceAdd, Nat.reduceSub, List.replicate, List.cons_append, List.nil_append, List.getElem?_cons_zero, List.getElem?_cons_succ, List.set_cons_zero, List.set_cons_succ, ex_some, ex_some1, ex_bl, ex_int, at3_0, at3_1, at3_2, at2_0, at2_1, lstOf_last, decide_eq_true_eq, f3, c2, sz3, e1, hp, p0, true_and, and_self]
      first | exact ⟨(by first | rfl | trivial), ⟨_, rfl⟩, _, Int.emod_nonneg _ (by omega), rfl⟩ | exact ⟨⟨_, rfl⟩, _, Int.emod_nonneg _ (by omega), rfl⟩
    rintro l S4 ⟨g4, c, c0, rfl⟩
    have f6 : (0 : Int) < 64 ∧ (64 : Int) < 1073741824 := by decide
    simp only [wo_run, ws_seq, ws_if, wt_e, we_op, we_un, we_var, we_c, ws_asg, ws_ret, ws_drop, ws_next, ws_break, ws_cont, wg_name, wg_sub, wg_tup, wg_nil, wg_cons, wg_dput, we_call, we_methL, we_methS, wa_cons, wa_nil, wt_and, wt_or, wt_not, we_and, we_or, we_not, we_if, wo_I0, wo_I, wo_plusAI, wo_plusAT, we_slA, wp_none, wp_some, ex_int1, wo_slT, wo_intAB, wo_times, wo_ixT, wo_ixL, wo_ixAT, wo_ixAL, wo_ixAS, wo_lenT, wo_lenL, wo_lenAT, wo_lenAL, wo_lenAS, wo_abs, wo_intB, wo_tup, wo_lst, wo_tupleL, wo_eqI, wo_eqB, wo_eqSt, wo_neS, wo_neB, wo_neI, wo_is, wo_isnot, wo_str, wo_isI_bl, wo_isI_int, wo_isI_str, wo_isI_tup, wo_isI_non, isI_same, List.map_cons, List.map_nil, List.length_cons, List.length_nil, Nat.reduceAdd, Nat.reduceSub, List.replicate, List.cons_append, List.nil_append, List.getElem?_cons_zero, List.getElem?_cons_succ, List.set_cons_zero, List.set_cons_succ, ex_some, ex_some1, ex_bl, ex_int, at3_0, at3_1, at3_2, at2_0, at2_1, lstOf_last, decide_eq_true_eq, f6, h1, true_and, and_self]
    have d0 := Int.emod_nonneg (c / 64) (show m ≠ 0 by omega)
    have d1 := Int.emod_lt_of_pos (c / 64) h1
    exact ⟨⟨(c / 64 % m).toNat, by rw [Int.toNat_of_nonneg d0], by rw [Int.toNat_of_nonneg d0]; exact d1⟩, ⟨x, y, z + 1, g4.get hS1, x0, y0, y1, by omega⟩, f1.trans (Fn.gr g4)⟩
end M
namespace M
open PySem L3 G
theorem pen_ok (ns : List Int) (k : Nat) (S : Sto) (h : lstOf S 0 = some (ns.map D.int)) (hk : k < 1000000) : Wo (m_law_pen [.ref 0, .int k] S) fun v S' => v = .ref S.length ∧ PQ S.length S' ∧ Gr S S' := by
  have sz3 : 3 ≤ sizeLine := by decide
  have c1 : (-(2 ^ 64) < (104729 : Int) ∧ (104729 : Int) < 2 ^ 64) := by decide
  have c2 : (-(2 ^ 64) < (69621 : Int) ∧ (69621 : Int) < 2 ^ 64) := by decide
  have f0 : (0 : Int) < 2147483629 := by decide
  have f1 : (0 : Int) < 2147483587 := by decide
  unfold m_law_pen b_law_pen
  simp only [wo_run, List.map_cons, List.map_nil, List.length_cons, List.length_nil, Nat.reduceAdd, Nat.reduceSub, List.replicate, List.cons_append, List.nil_append]
  refine ws_cut (fun l S' => S' = S ∧ ∃ c : Int, l = [some (.ref 0), some (.int k), some (.int c)]) ?_ ?_
  · simp only [wo_run, ws_seq, ws_if, wt_e, we_op, we_un, we_var, we_c, ws_asg, ws_ret, ws_drop, ws_next, ws_break, ws_cont, wg_name, wg_sub, wg_tup, wg_nil, wg_cons, wg_dput, we_call, we_methL, we_methS, wa_cons, wa_nil, wt_and, wt_or, wt_not, we_and, we_or, we_not, we_if, wo_I0, wo_I, wo_plusAI, wo_plusAT, we_slA, wp_none, wp_some, ex_int1, wo_slT, wo_intAB, wo_times, wo_ixT, wo_ixL, wo_ixAT, wo_ixAL, wo_ixAS, wo_lenT, wo_lenL, wo_lenAT, wo_lenAL, wo_lenAS, wo_abs, wo_intB, wo_tup, wo_lst, wo_tupleL, wo_eqI, wo_eqB, wo_eqSt, wo_neS, wo_neB, wo_neI, wo_is, wo_isnot, wo_str, wo_isI_bl, wo_isI_int, wo_isI_str, wo_isI_tup, wo_isI_non, isI_same, List.map_cons, List.map_nil, List.length_cons, List.length_nil, Nat.reduceAdd, Nat.reduceSub, List.replicate, List.cons_append, List.nil_append, List.getElem?_cons_zero, List.getElem?_cons_succ, List.set_cons_zero, List.set_cons_succ, ex_some, ex_some1, ex_bl, ex_int, at3_0, at3_1, at3_2, at2_0, at2_1, lstOf_last, decide_eq_true_eq, c1, true_or, true_and, and_self]
    first | exact ⟨(by first | rfl | trivial), (by first | rfl | trivial), _, rfl⟩ | exact ⟨_, rfl⟩
  rintro l S1 ⟨rfl, c, rfl⟩
  refine ws_cut (fun l S' => S' = S1 ∧ ∃ c : Int, l = [some (.ref 0), some (.int k), some (.int c)]) ?_ ?_
  · rw [ws_if]
    simp only [wt_e, we_op, we_call, wa_cons, wa_nil, we_var, List.getElem?_cons_zero, List.getElem?_cons_succ, ex_some, wo_lenAL, h, ex_some1, List.length_map, wo_I0, ex_bl]
    by_cases h1 : (k : Int) < (ns.length : Int)
    · obtain ⟨v, hv1, hv2⟩ := atI_in (ns.map D.int) (k : Int) (by omega) (by rw [List.length_map]; exact h1)
      obtain ⟨i, _, rfl⟩ := List.mem_map.mp hv2
      simp only [h1, decide_true, if_true, wo_run, ws_seq, ws_if, wt_e, we_op, we_un, we_var, we_c, ws_asg, ws_ret, ws_drop, ws_next, ws_break, ws_cont, wg_name, wg_sub, wg_tup, wg_nil, wg_cons, wg_dput, we_call, we_methL, we_methS, wa_cons, wa_nil, wt_and, wt_or, wt_not, we_and, we_or, we_not, we_if, wo_I0, wo_I, wo_plusAI, wo_plusAT, we_slA, wp_none, wp_some, ex_int1, wo_slT, wo_intAB, wo_times, wo_ixT, wo_ixL, wo_ixAT, wo_ixAL, wo_ixAS, wo_lenT, wo_lenL, wo_lenAT, wo_lenAL, wo_lenAS, wo_abs, wo_intB, wo_tup, wo_lst, wo_tupleL, wo_eqI, wo_eqB, wo_eqSt, wo_neS, wo_neB, wo_neI, wo_is, wo_isnot, wo_str, wo_isI_bl, wo_isI_int, wo_isI_str, wo_isI_tup, wo_isI_non, isI_same, List.map_cons, List.map_nil, List.length_cons, List.length_nil, Nat.reduceAdd, Nat.reduceSub, List.replicate, List.cons_append, List.nil_append, List.getElem?_cons_zero, List.getElem?_cons_succ, List.set_cons_zero, List.set_cons_succ, ex_some, ex_some1, ex_bl, ex_int, at3_0, at3_1, at3_2, at2_0, at2_1, lstOf_last, decide_eq_true_eq, h, hv1]
      first | exact ⟨(by first | rfl | trivial), (by first | rfl | trivial), _, rfl⟩ | exact ⟨_, rfl⟩
    · simp only [h1, decide_false, Bool.false_eq_true, if_false]
      rw [ws_if]
      simp only [wt_e, we_op, we_call, wa_cons, wa_nil, we_var, we_c, List.getElem?_cons_zero, List.getElem?_cons_succ, ex_some, wo_lenAL, h, ex_some1, List.length_map, wo_I0, ex_bl]
      by_cases h2 : (0 : Int) < (ns.length : Int)
      · obtain ⟨v, hv1, hv2⟩ := atI_in (ns.map D.int) ((k : Int) % (ns.length : Int)) (Int.emod_nonneg _ (by omega)) (by rw [List.length_map]; exact Int.emod_lt_of_pos _ h2)
        obtain ⟨i, _, rfl⟩ := List.mem_map.mp hv2
        simp only [h2, decide_true, if_true, wo_run, ws_seq, ws_if, wt_e, we_op, we_un, we_var, we_c, ws_asg, ws_ret, ws_drop, ws_next, ws_break, ws_cont, wg_name, wg_sub, wg_tup, wg_nil, wg_cons, wg_dput, we_call, we_methL, we_methS, wa_cons, wa_nil, wt_and, wt_or, wt_not, we_and, we_or, we_not, we_if, wo_I0, wo_I, wo_plusAI, wo_plusAT, we_slA, wp_none, wp_some, ex_int1, wo_slT, wo_intAB, wo_times, wo_ixT, wo_ixL, wo_ixAT, wo_ixAL, wo_ixAS, wo_lenT, wo_lenL, wo_lenAT, wo_lenAL, wo_lenAS, wo_abs, wo_intB, wo_tup, wo_lst, wo_tupleL, wo_eqI, wo_eqB, wo_eqSt, wo_neS, wo_neB, wo_neI, wo_is, wo_isnot, wo_str, wo_isI_bl, wo_isI_int, wo_isI_str, wo_isI_tup, wo_isI_non, isI_same, List.map_cons, List.map_nil, List.length_cons, List.length_nil, Nat.reduceAdd, Nat.reduceSub, List.replicate, List.cons_append, List.nil_append, List.getElem?_cons_zero, List.getElem?_cons_succ, List.set_cons_zero, List.set_cons_succ, ex_some, ex_some1, ex_bl, ex_int, at3_0, at3_1, at3_2, at2_0, at2_1, lstOf_last, decide_eq_true_eq, List.length_map, h, hv1, f0, c2, true_or, true_and]
        first | exact ⟨(by first | rfl | trivial), (by first | rfl | trivial), _, rfl⟩ | exact ⟨_, rfl⟩
      · simp only [h2, decide_false, Bool.false_eq_true, if_false, ws_next]
        first | exact ⟨(by first | rfl | trivial), (by first | rfl | trivial), _, rfl⟩ | exact ⟨(by first | rfl | trivial), _, rfl⟩
  rintro l S2 ⟨rfl, c, rfl⟩
  have c3 : (0 : Int) ≤ 18 ∧ (18 : Int) ≤ 1000000 ∧ (10 : Int).natAbs < 2 ^ 64 := by decide
  have m0 := Int.emod_nonneg c (show (2147483587 : Int) ≠ 0 by decide)
  have m1 := Int.emod_lt_of_pos c f1
  have e18 : ((10 : Int) ^ (18 : Int).toNat) = 1000000000000000000 := by decide
  rw [ws_seq, ws_if]
  simp only [wt_e, we_op, we_var, we_c, List.getElem?_cons_zero, List.getElem?_cons_succ, ex_some, wo_I, decide_eq_true_eq, c3, true_and, wo_I0, ex_bl, e18]
  by_cases hc : c ≥ 1000000000000000000
  · simp only [hc, decide_true, if_true, wo_run, ws_seq, ws_if, wt_e, we_op, we_un, we_var, we_c, ws_asg, ws_ret, ws_drop, ws_next, ws_break, ws_cont, wg_name, wg_sub, wg_tup, wg_nil, wg_cons, wg_dput, we_call, we_methL, we_methS, wa_cons, wa_nil, wt_and, wt_or, wt_not, we_and, we_or, we_not, we_if, wo_I0, wo_I, wo_plusAI, wo_plusAT, we_slA, wp_none, wp_some, ex_int1, wo_slT, wo_intAB, wo_times, wo_ixT, wo_ixL, wo_ixAT, wo_ixAL, wo_ixAS, wo_lenT, wo_lenL, wo_lenAT, wo_lenAL, wo_lenAS, wo_abs, wo_intB, wo_tup, wo_lst, wo_tupleL, wo_eqI, wo_eqB, wo_eqSt, wo_neS, wo_neB, wo_neI, wo_is, wo_isnot, wo_str, wo_isI_bl, wo_isI_int, wo_isI_str, wo_isI_tup, wo_isI_non, isI_same, List.map_cons, List.map_nil, List.length_cons, List.length_nil, Nat.reduceAdd, Nat.reduceSub, List.replicate, List.cons_append, List.nil_append, List.getElem?_cons_zero, List.getElem?_cons_succ, List.set_cons_zero, List.set_cons_succ, ex_some, ex_some1, ex_bl, ex_int, at3_0, at3_1, at3_2, at2_0, at2_1, lstOf_last, decide_eq_true_eq, c3, true_and, f1, sz3, e18, and_self]
    exact ⟨⟨_, _, _, get_self _ _, by omega, m0, m1, by decide⟩, ⟨_, rfl⟩⟩
  · simp only [hc, decide_false, Bool.false_eq_true, if_false, ws_next, wo_run, ws_seq, ws_if, wt_e, we_op, we_un, we_var, we_c, ws_asg, ws_ret, ws_drop, ws_next, ws_break, ws_cont, wg_name, wg_sub, wg_tup, wg_nil, wg_cons, wg_dput, we_call, we_methL, we_methS, wa_cons, wa_nil, wt_and, wt_or, wt_not, we_and, we_or, we_not, we_if, wo_I0, wo_I, wo_plusAI, wo_plusAT, we_slA, wp_none, wp_some, ex_int1, wo_slT, wo_intAB, wo_times, wo_ixT, wo_ixL, wo_ixAT, wo_ixAL, wo_ixAS, wo_lenT, wo_lenL, wo_lenAT, wo_lenAL, wo_lenAS, wo_abs, wo_intB, wo_tup, wo_lst, wo_tupleL, wo_eqI, wo_eqB, wo_eqSt, wo_neS, wo_neB, wo_neI, wo_is, wo_isnot, wo_str, wo_isI_bl, wo_isI_int, wo_isI_str, wo_isI_tup, wo_isI_non, isI_same, List.map_cons, List.map_nil, List.length_cons, List.length_nil, Nat.reduceAdd, Nat.reduceSub, List.replicate, List.cons_append, List.nil_append, List.getElem?_cons_zero, List.getElem?_cons_succ, List.set_cons_zero, List.set_cons_succ, ex_some, ex_some1, ex_bl, ex_int, at3_0, at3_1, at3_2, at2_0, at2_1, lstOf_last, decide_eq_true_eq, f1, sz3, true_and, and_self]
    exact ⟨⟨_, _, _, get_self _ _, by decide, m0, m1, by decide⟩, ⟨_, rfl⟩⟩
noncomputable abbrev Cl := Option Nat × Option Nat
noncomputable def oD : Option Nat → D
  | none => .non
  | some k => .int (k : Int)
noncomputable def cD (c : Cl) : D := .tup [oD c.1, oD c.2]
noncomputable def OkC (m : Nat) (c : Cl) : Prop := (∀ k, c.1 = some k → k < m) ∧ ∀ k, c.2 = some k → k < 8
noncomputable def rD (cs : List Cl) : D := .tup (cs.map cD)
theorem cell_ok (n : Nat) (many share pool : Nat) (S : Sto) (h : PQ n S) (h1 : 1 ≤ many) (h2 : many ≤ 100) (h3 : 1 ≤ pool) (h4 : pool ≤ 8) : Wo (m_law_cell [.ref n, .int many, .int share, .int pool] S) fun v S' => (∃ c, v = cD c ∧ OkC many c) ∧ PQ n S' ∧ Fn n S S' := by
  have sz2 : 2 ≤ sizeLine := by decide
  unfold m_law_cell b_law_cell
  simp only [wo_run, List.map_cons, List.map_nil, List.length_cons, List.length_nil, Nat.reduceAdd, Nat.reduceSub, List.replicate, List.cons_append, List.nil_append]
  refine ws_cut (fun l S' => PQ n S' ∧ Fn n S S' ∧ ∃ d : Nat, d < many ∧ l = [some (.ref n), some (.int many), some (.int share), some (.int pool), some (.int d), none]) ?_ ?_
  · simp only [ws_asg, we_call, wa_cons, wa_nil, we_var, List.getElem?_cons_zero, List.getElem?_cons_succ, ex_some]
    refine (draw_ok n many S h (by omega) (by omega)).mono ?_
    rintro x S1 ⟨⟨d, rfl, hd⟩, p, f⟩
    simp only [wg_name, List.set_cons_zero, List.set_cons_succ]
    first | exact ⟨(by first | rfl | trivial), p, f, d, by omega, rfl⟩ | exact ⟨p, f, d, by omega, rfl⟩
  rintro l S1 ⟨p1, f1, d1, hd1, rfl⟩
  refine ws_cut (fun l S' => PQ n S' ∧ Fn n S S' ∧ ∃ d : Nat, d < 8 ∧ l = [some (.ref n), some (.int many), some (.int share), some (.int pool), some (.int d1), some (.int d)]) ?_ ?_
  · simp only [ws_asg, we_call, wa_cons, wa_nil, we_var, List.getElem?_cons_zero, List.getElem?_cons_succ, ex_some]
    refine (draw_ok n pool S1 p1 (by omega) (by omega)).mono ?_
    rintro x S2 ⟨⟨d, rfl, hd⟩, p, f⟩
    simp only [wg_name, List.set_cons_zero, List.set_cons_succ]
    first | exact ⟨(by first | rfl | trivial), p, f1.trans f, d, by omega, rfl⟩ | exact ⟨p, f1.trans f, d, by omega, rfl⟩
  rintro l S2 ⟨p2, f2, d2, hd2, rfl⟩
  refine ws_cut (fun l S' => PQ n S' ∧ Fn n S S' ∧ ∃ g : Option Nat, (∀ k, g = some k → k < many) ∧ l = [some (.ref n), some (.int many), some (.int share), some (.int pool), some (oD g), some (.int d2)]) ?_ ?_
  · simp only [ws_if, wt_e, we_op, we_call, wa_cons, wa_nil, we_var, we_c, List.getElem?_cons_zero, List.getElem?_cons_succ, ex_some]
    refine (draw_ok n 8 S2 p2 (by decide) (by decide)).mono ?_
    rintro x S3 ⟨⟨d, rfl, hd⟩, p, f⟩
    simp only [wo_I0, ex_bl]
    by_cases hc : (d : Int) < (share : Int)
    · simp only [hc, decide_true, if_true, ws_asg, we_c, wg_name, List.set_cons_zero, List.set_cons_succ]
      first | exact ⟨(by first | rfl | trivial), p, f2.trans f, none, (fun k z => by cases z), rfl⟩ | exact ⟨p, f2.trans f, none, (fun k z => by cases z), rfl⟩
    · simp only [hc, decide_false, Bool.false_eq_true, if_false, ws_next]
      first | exact ⟨(by first | rfl | trivial), p, f2.trans f, some d1, (fun k z => by cases z; exact hd1), rfl⟩ | exact ⟨p, f2.trans f, some d1, (fun k z => by cases z; exact hd1), rfl⟩
  rintro l S3 ⟨p3, f3, g, hg, rfl⟩
  refine ws_cut (fun l S' => PQ n S' ∧ Fn n S S' ∧ ∃ s : Option Nat, (∀ k, s = some k → k < 8) ∧ l = [some (.ref n), some (.int many), some (.int share), some (.int pool), some (oD g), some (oD s)]) ?_ ?_
  · simp only [ws_if, wt_e, we_op, we_call, wa_cons, wa_nil, we_var, we_c, List.getElem?_cons_zero, List.getElem?_cons_succ, ex_some]
    refine (draw_ok n 8 S3 p3 (by decide) (by decide)).mono ?_
    rintro x S4 ⟨⟨d, rfl, hd⟩, p, f⟩
    simp only [wo_I0, ex_bl]
    by_cases hc : (d : Int) < (share : Int)
    · simp only [hc, decide_true, if_true, ws_asg, we_c, wg_name, List.set_cons_zero, List.set_cons_succ]
      first | exact ⟨(by first | rfl | trivial), p, f3.trans f, none, (fun k z => by cases z), rfl⟩ | exact ⟨p, f3.trans f, none, (fun k z => by cases z), rfl⟩
    · simp only [hc, decide_false, Bool.false_eq_true, if_false, ws_next]
      first | exact ⟨(by first | rfl | trivial), p, f3.trans f, some d2, (fun k z => by cases z; exact hd2), rfl⟩ | exact ⟨p, f3.trans f, some d2, (fun k z => by cases z; exact hd2), rfl⟩
  rintro l S4 ⟨p4, f4, s, hs, rfl⟩
  simp only [wo_run, ws_seq, ws_if, wt_e, we_op, we_un, we_var, we_c, ws_asg, ws_ret, ws_drop, ws_next, ws_break, ws_cont, wg_name, wg_sub, wg_tup, wg_nil, wg_cons, wg_dput, we_call, we_methL, we_methS, wa_cons, wa_nil, wt_and, wt_or, wt_not, we_and, we_or, we_not, we_if, wo_I0, wo_I, wo_plusAI, wo_plusAT, we_slA, wp_none, wp_some, ex_int1, wo_slT, wo_intAB, wo_times, wo_ixT, wo_ixL, wo_ixAT, wo_ixAL, wo_ixAS, wo_lenT, wo_lenL, wo_lenAT, wo_lenAL, wo_lenAS, wo_abs, wo_intB, wo_tup, wo_lst, wo_tupleL, wo_eqI, wo_eqB, wo_eqSt, wo_neS, wo_neB, wo_neI, wo_is, wo_isnot, wo_str, wo_isI_bl, wo_isI_int, wo_isI_str, wo_isI_tup, wo_isI_non, isI_same, List.map_cons, List.map_nil, List.length_cons, List.length_nil, Nat.reduceAdd, Nat.reduceSub, List.replicate, List.cons_append, List.nil_append, List.getElem?_cons_zero, List.getElem?_cons_succ, List.set_cons_zero, List.set_cons_succ, ex_some, ex_some1, ex_bl, ex_int, at3_0, at3_1, at3_2, at2_0, at2_1, lstOf_last, decide_eq_true_eq, sz2, true_and]
  exact ⟨⟨(g, s), rfl, hg, hs⟩, p4, f4⟩
end M
namespace M
open PySem L3 G
theorem Fn.set' {n r : Nat} {A B : Sto} {o : Ob} (h : Fn n A B) (hr : A.length ≤ r) : Fn n A (B.set r o) := fun j o' hj e => by
  have := (List.getElem?_eq_some_iff.mp e).1
  rw [List.getElem?_set_ne (by omega)]; exact h j o' hj e
theorem PQ.set {n r : Nat} {S : Sto} {o : Ob} (h : PQ n S) (hr : r ≠ n) : PQ n (S.set r o) := let ⟨x, y, z, e, q⟩ := h; ⟨x, y, z, by rw [List.getElem?_set_ne hr]; exact e, q⟩
theorem Fn.len {n : Nat} {A B : Sto} (h : Fn n A B) (p : PQ n B) : A.length ≤ B.length := by
  by_cases hA : A.length = 0
  · omega
  · by_cases hn : A.length - 1 = n
    · have := p.lt; omega
    · have h1 : A[A.length - 1]? = some A[A.length - 1] := List.getElem?_eq_getElem (by omega)
      have := (List.getElem?_eq_some_iff.mp (h _ _ hn h1)).1
      omega
noncomputable def OkR (m asks : Nat) (cs : List Cl) : Prop := cs.length = asks ∧ ∀ c ∈ cs, OkC m c
noncomputable def mD (asks : Nat) (rs : List (List Cl)) : D := .tup [.int (asks : Int), .tup (rs.map rD)]
structure OkM (asks : Nat) (rs : List (List Cl)) : Prop where
  a1 : 1 ≤ asks
  a4 : asks ≤ 4
  r1 : 1 ≤ rs.length
  r24 : rs.length ≤ 24
  ok : ∀ cs ∈ rs, OkR rs.length asks cs
theorem at_share (i : Nat) (hi : (i : Int) < 4) : ∃ m : Nat, L2.atI [D.int 0, .int 1, .int 3, .int 6] (i : Int) = some (.int m) := by
  have : i = 0 ∨ i = 1 ∨ i = 2 ∨ i = 3 := by omega
  rcases this with rfl | rfl | rfl | rfl
  · exact ⟨0, rfl⟩
  · exact ⟨1, rfl⟩
  · exact ⟨3, rfl⟩
  · exact ⟨6, rfl⟩
theorem at_pool (i : Nat) (hi : (i : Int) < 3) : ∃ m : Nat, L2.atI [D.int 2, .int 3, .int 8] (i : Int) = some (.int m) ∧ 1 ≤ m ∧ m ≤ 8 := by
  have : i = 0 ∨ i = 1 ∨ i = 2 := by omega
  rcases this with rfl | rfl | rfl
  · exact ⟨2, rfl, by decide, by decide⟩
  · exact ⟨3, rfl, by decide, by decide⟩
  · exact ⟨8, rfl, by decide, by decide⟩
theorem cells_of {m : Nat} : ∀ (vs : List D), (∀ v ∈ vs, ∃ c, v = cD c ∧ OkC m c) → ∃ cs : List Cl, vs = cs.map cD ∧ ∀ c ∈ cs, OkC m c
  | [], _ => ⟨[], rfl, fun t h => by cases h⟩
  | v :: vs, h => by
    obtain ⟨c, rfl, hc⟩ := h v List.mem_cons_self
    obtain ⟨cs, h1, h2⟩ := cells_of vs fun u hu => h u (List.mem_cons_of_mem _ hu)
    refine ⟨c :: cs, by rw [h1]; rfl, fun t ht => ?_⟩
    rcases List.mem_cons.mp ht with rfl | ht
    · exact hc
    · exact h2 t ht
theorem set_at {S : Sto} {q d : Nat} {xs : List D} {v : D} (h : S[q]? = some (.lst xs)) (hd : d < xs.length) : setIx (.ref q) (.int (d : Int)) v S = some (S.set q (.lst (xs.set d v))) := by
  unfold setIx
  simp only [h]
  have : L2.ixN xs.length (d : Int) = some d := by unfold L2.ixN; simp; omega
  rw [this]; rfl
theorem wo_listT {S : Sto} {xs : List D} {Q : D → Sto → Prop} : Wo (fList [.tup xs] S) Q = Q (.ref S.length) (S ++ [.lst xs]) := wo_some
theorem machine_ok (n asks : Nat) (S : Sto) (h : PQ n S) (ha1 : 1 ≤ asks) (ha4 : asks ≤ 4) : Wo (m_law_machine [.ref n, .int 24, .int asks] S) fun v S' => (∃ rs, v = mD asks rs ∧ OkM asks rs) ∧ PQ n S' ∧ Fn n S S' := by
  have sz0 : 0 ≤ sizeLine := by decide
  have sz2 : 2 ≤ sizeLine := by decide
  have sz3 : 3 ≤ sizeLine := by decide
  have sz4 : 4 ≤ sizeLine := by decide
  have big : 1000 ≤ sizeLine := by decide
  unfold m_law_machine b_law_machine
  simp only [wo_run, List.map_cons, List.map_nil, List.length_cons, List.length_nil, Nat.reduceAdd, Nat.reduceSub, List.replicate, List.cons_append, List.nil_append]
  refine ws_cut (fun l S' => PQ n S' ∧ Fn n S S' ∧ ∃ many : Nat, 1 ≤ many ∧ many ≤ 24 ∧ l = [some (.ref n), some (.int 24), some (.int asks), some (.int many), none, none, none, none, none]) ?_ ?_
  · simp only [ws_asg, we_op, we_call, wa_cons, wa_nil, we_var, we_c, List.getElem?_cons_zero, List.getElem?_cons_succ, ex_some]
    refine (draw_ok n 24 S h (by decide) (by decide)).mono ?_
    rintro x S1 ⟨⟨d, rfl, hd⟩, p, f⟩
    have e : (1 : Int) + (d : Int) = ((1 + d : Nat) : Int) := by push_cast; rfl
    simp only [wo_plusAI, e, wg_name, List.set_cons_zero, List.set_cons_succ]
    first | exact ⟨(by first | rfl | trivial), p, f, 1 + d, by omega, by omega, rfl⟩ | exact ⟨p, f, 1 + d, by omega, by omega, rfl⟩
  rintro l S1 ⟨p1, f1, many, m1, m24, rfl⟩
  refine ws_cut (fun l S' => PQ n S' ∧ Fn n S S' ∧ ∃ share : Nat, l = [some (.ref n), some (.int 24), some (.int asks), some (.int many), some (.int share), none, none, none, none]) ?_ ?_
  · simp only [ws_asg, we_op, we_call, wa_cons, wa_nil, we_var, we_c, List.getElem?_cons_zero, List.getElem?_cons_succ, ex_some, wo_lst, List.length_cons, List.length_nil, Nat.reduceAdd, sz4, true_and]
    refine (draw_ok n 4 _ (p1.gr ⟨_, rfl⟩) (by decide) (by decide)).mono ?_
    rintro x S2 ⟨⟨d, rfl, hd⟩, p, f⟩
    obtain ⟨m, hm⟩ := at_share d hd
    have hl := f.lst (Ne.symm (Nat.ne_of_lt p1.lt)) lstOf_last
    simp only [wo_ixAL, hl, ex_some1, hm, wg_name, List.set_cons_zero, List.set_cons_succ]
    first | exact ⟨(by first | rfl | trivial), p, f1.trans ((Fn.gr ⟨_, rfl⟩).trans f), m, rfl⟩ | exact ⟨p, f1.trans ((Fn.gr ⟨_, rfl⟩).trans f), m, rfl⟩
  rintro l S2 ⟨p2, f2, share, rfl⟩
  refine ws_cut (fun l S' => PQ n S' ∧ Fn n S S' ∧ ∃ pool : Nat, 1 ≤ pool ∧ pool ≤ 8 ∧ l = [some (.ref n), some (.int 24), some (.int asks), some (.int many), some (.int share), some (.int pool), none, none, none]) ?_ ?_
  · simp only [ws_asg, we_op, we_call, wa_cons, wa_nil, we_var, we_c, List.getElem?_cons_zero, List.getElem?_cons_succ, ex_some, wo_lst, List.length_cons, List.length_nil, Nat.reduceAdd, sz3, true_and]
    refine (draw_ok n 3 _ (p2.gr ⟨_, rfl⟩) (by decide) (by decide)).mono ?_
    rintro x S3 ⟨⟨d, rfl, hd⟩, p, f⟩
    obtain ⟨m, hm, hm1, hm2⟩ := at_pool d hd
    have hl := f.lst (Ne.symm (Nat.ne_of_lt p2.lt)) lstOf_last
    simp only [wo_ixAL, hl, ex_some1, hm, wg_name, List.set_cons_zero, List.set_cons_succ]
    first | exact ⟨(by first | rfl | trivial), p, f2.trans ((Fn.gr ⟨_, rfl⟩).trans f), m, hm1, hm2, rfl⟩ | exact ⟨p, f2.trans ((Fn.gr ⟨_, rfl⟩).trans f), m, hm1, hm2, rfl⟩
  rintro l S3 ⟨p3, f3, pool, po1, po2, rfl⟩
  refine ws_cut (fun l S' => PQ n S' ∧ Fn n S S' ∧ ∃ r, S.length ≤ r ∧ r ≠ n ∧ S'[r]? = some (.lst []) ∧ l = [some (.ref n), some (.int 24), some (.int asks), some (.int many), some (.int share), some (.int pool), some (.ref r), none, none]) ?_ ?_
  · simp only [wo_run, ws_seq, ws_if, wt_e, we_op, we_un, we_var, we_c, ws_asg, ws_ret, ws_drop, ws_next, ws_break, ws_cont, wg_name, wg_sub, wg_tup, wg_nil, wg_cons, wg_dput, we_call, we_methL, we_methS, wa_cons, wa_nil, wt_and, wt_or, wt_not, we_and, we_or, we_not, we_if, wo_I0, wo_I, wo_plusAI, wo_plusAT, we_slA, wp_none, wp_some, ex_int1, wo_slT, wo_intAB, wo_times, wo_ixT, wo_ixL, wo_ixAT, wo_ixAL, wo_ixAS, wo_lenT, wo_lenL, wo_lenAT, wo_lenAL, wo_lenAS, wo_abs, wo_intB, wo_tup, wo_lst, wo_tupleL, wo_eqI, wo_eqB, wo_eqSt, wo_neS, wo_neB, wo_neI, wo_is, wo_isnot, wo_str, wo_isI_bl, wo_isI_int, wo_isI_str, wo_isI_tup, wo_isI_non, isI_same, List.map_cons, List.map_nil, List.length_cons, List.length_nil, Nat.reduceAdd, Nat.reduceSub, List.replicate, List.cons_append, List.nil_append, List.getElem?_cons_zero, List.getElem?_cons_succ, List.set_cons_zero, List.set_cons_succ, ex_some, ex_some1, ex_bl, ex_int, at3_0, at3_1, at3_2, at2_0, at2_1, lstOf_last, decide_eq_true_eq, sz0, true_and]
    have := f3.len p3
    first | exact ⟨(by first | rfl | trivial), p3.gr ⟨_, rfl⟩, f3.trans (Fn.gr ⟨_, rfl⟩), _, this, Ne.symm (Nat.ne_of_lt p3.lt), get_self _ _, rfl⟩ | exact ⟨p3.gr ⟨_, rfl⟩, f3.trans (Fn.gr ⟨_, rfl⟩), _, this, Ne.symm (Nat.ne_of_lt p3.lt), get_self _ _, rfl⟩
  rintro l S4 ⟨p4, f4, r, hr, hrn, h4, rfl⟩
  rw [ws_seq]
  refine ws_rng (n := many) (fun i l S' => PQ n S' ∧ Fn n S S' ∧ ∃ rs : List (List Cl), rs.length = i ∧ (∀ cs ∈ rs, OkR many asks cs) ∧ S'[r]? = some (.lst (rs.map rD)) ∧ ∃ y7 y8, l = [some (.ref n), some (.int 24), some (.int asks), some (.int many), some (.int share), some (.int pool), some (.ref r), y7, y8]) (fun _ _ => False) (as1 rfl) (by omega) ⟨p4, f4, [], rfl, (fun cs z => by cases z), h4, _, _, rfl⟩ ?_ ?_ (fun d l S h => h.elim)
  · rintro i l S5 hi ⟨p5, f5, rs, hl5, ok5, h5, y7, y8, rfl⟩
    simp only [wg_name, List.set_cons_zero, List.set_cons_succ]
    have hrl := (List.getElem?_eq_some_iff.mp h5).1
    refine ws_cut (fun l S' => PQ n S' ∧ Fn n S5 S' ∧ ∃ q cs, S5.length ≤ q ∧ OkR many asks cs ∧ S'[q]? = some (.lst (cs.map cD)) ∧ l = [some (.ref n), some (.int 24), some (.int asks), some (.int many), some (.int share), some (.int pool), some (.ref r), some (.int i), some (.ref q)]) ?_ ?_
    · rw [ws_asg]
      refine we_compV (rngD 0 asks) (fun v => ∃ c, v = cD c ∧ OkC many c) (fun _ S' => PQ n S' ∧ Fn n S5 S') (fun l => ∃ y0, l = [y0, some (.ref n), some (.int many), some (.int share), some (.int pool)]) (rng_im (as1 rfl) (by omega)) ⟨p5, Fn.refl n S5⟩ ⟨_, rfl⟩ (fun i S _ => rfl) (by rw [rngD_len]; omega) ?_ ?_
      · rintro j x l S6 hx ⟨y0, rfl⟩ ⟨p6, f6⟩
        simp only [wg_name, List.set_cons_zero]
        refine ⟨⟨_, rfl⟩, ?_⟩
        simp only [we_call, wa_cons, wa_nil, we_var, List.getElem?_cons_zero, List.getElem?_cons_succ, ex_some]
        refine (cell_ok n many share pool S6 p6 m1 (by omega) po1 po2).mono ?_
        rintro v S7 ⟨hc, p7, f7⟩
        exact ⟨hc, p7, f6.trans f7⟩
      · rintro vs S6 hl hv ⟨p6, f6⟩
        obtain ⟨cs, rfl, hcs⟩ := cells_of vs hv
        rw [rngD_len, List.length_map] at hl
        simp only [wg_name, List.set_cons_zero, List.set_cons_succ]
        first | exact ⟨(by first | rfl | trivial), p6.gr ⟨_, rfl⟩, f6.trans (Fn.gr ⟨_, rfl⟩), _, cs, f6.len p6, ⟨hl, hcs⟩, get_self _ _, rfl⟩ | exact ⟨p6.gr ⟨_, rfl⟩, f6.trans (Fn.gr ⟨_, rfl⟩), _, cs, f6.len p6, ⟨hl, hcs⟩, get_self _ _, rfl⟩
    rintro l S6 ⟨p6, f6, q, cs, hq, okc, h6, rfl⟩
    have h6r := f6 r _ hrn h5
    have fin : ∀ {S9 : Sto} {q9 : Nat} {cs9 : List Cl}, PQ n S9 → Fn n S5 S9 → S9[q9]? = some (.lst (cs9.map cD)) → OkR many asks cs9 →
        Ws (sDrop (eMethL mAppend (eVar 6) (aCons (eCall fTuple (aCons (eVar 8) (aNil))) aNil))) [some (.ref n), some (.int 24), some (.int asks), some (.int many), some (.int share), some (.int pool), some (.ref r), some (.int i), some (.ref q9)] S9 fun f l2 S2 =>
          ((f = .nx ∨ f = .ct) ∧ PQ n S2 ∧ Fn n S S2 ∧ ∃ rs : List (List Cl), rs.length = i + 1 ∧ (∀ cs ∈ rs, OkR many asks cs) ∧ S2[r]? = some (.lst (rs.map rD)) ∧ ∃ y7 y8, l2 = [some (.ref n), some (.int 24), some (.int asks), some (.int many), some (.int share), some (.int pool), some (.ref r), y7, y8]) ∨ ∃ d, f = .rt d ∧ False := fun {S9 q9 cs9} p9 f9 h9 ok9 => by
      have h9r := f9 r _ hrn h5
      simp only [ws_drop, we_methL, we_call, we_var, wa_cons, wa_nil, List.getElem?_cons_zero, List.getElem?_cons_succ, ex_some, ex_some1, wo_tupleL, lst_of h9, wo_append]
      refine ⟨⟨_, show recvL (.ref r) S9 = some _ from lst_of h9r⟩, _, h9r, by rw [List.length_map]; omega, .inl ⟨(by first | exact .inl rfl | exact .inl trivial | trivial), p9.set hrn, (f5.trans f9).set' hr, rs ++ [cs9], by simp [hl5], fun c hc => ?_, ?_, _, _, rfl⟩⟩
      · rcases List.mem_append.mp hc with z | z
        · exact ok5 c z
        · rw [List.mem_singleton.mp z]; exact ok9
      · rw [get_set h9r, List.map_append]; rfl
    rw [ws_seq, ws_if]
    simp only [wt_and, wt_e, we_op, we_call, wa_cons, wa_nil, we_var, we_c, List.getElem?_cons_zero, List.getElem?_cons_succ, ex_some, wo_I0, ex_bl]
    by_cases hi0 : (0 : Int) < (i : Int)
    · simp only [hi0, decide_true, if_true]
      refine (draw_ok n 3 S6 p6 (by decide) (by decide)).mono ?_
      rintro x S7 ⟨⟨d, rfl, hd⟩, p7, f7⟩
      simp only [wo_eqI, ex_bl]
      by_cases hd0 : (d : Int) = 0
      · simp only [hd0, decide_true, if_true]
        have f57 := f6.trans f7
        refine ws_cut (fun l S' => PQ n S' ∧ Fn n S5 S' ∧ ∃ q cs, q ≠ n ∧ S5.length ≤ q ∧ OkR many asks cs ∧ S'[q]? = some (.lst (cs.map cD)) ∧ l = [some (.ref n), some (.int 24), some (.int asks), some (.int many), some (.int share), some (.int pool), some (.ref r), some (.int i), some (.ref q)]) ?_ ?_
        · simp only [ws_asg, we_op, we_call, wa_cons, wa_nil, we_var, List.getElem?_cons_zero, List.getElem?_cons_succ, ex_some]
          refine (draw_ok n (i : Int) S7 p7 hi0 (by omega)).mono ?_
          rintro x S8 ⟨⟨t, rfl, ht⟩, p8, f8⟩
          have f58 := f57.trans f8
          obtain ⟨u, hu1, hu2⟩ := atI_in (rs.map rD) (t : Int) (by omega) (by rw [List.length_map]; omega)
          obtain ⟨cs', hcs', rfl⟩ := List.mem_map.mp hu2
          simp only [wo_ixAL, lst_of (f58 r _ hrn h5), ex_some1, hu1, rD, wo_listT, wg_name, List.set_cons_zero, List.set_cons_succ]
          first | exact ⟨(by first | rfl | trivial), p8.gr ⟨_, rfl⟩, f58.trans (Fn.gr ⟨_, rfl⟩), _, cs', Ne.symm (Nat.ne_of_lt p8.lt), f58.len p8, ok5 _ hcs', get_self _ _, rfl⟩ | exact ⟨p8.gr ⟨_, rfl⟩, f58.trans (Fn.gr ⟨_, rfl⟩), _, cs', Ne.symm (Nat.ne_of_lt p8.lt), f58.len p8, ok5 _ hcs', get_self _ _, rfl⟩
        rintro l S8 ⟨p8, f8, q8, cs8, hq8, hql, ok8, h8, rfl⟩
        rw [ws_asg]
        simp only [we_call, wa_cons, wa_nil, we_var, List.getElem?_cons_zero, List.getElem?_cons_succ, ex_some]
        refine (cell_ok n many share pool S8 p8 m1 (by omega) po1 po2).mono ?_
        rintro v S9 ⟨⟨c, rfl, hc⟩, p9, f9⟩
        rw [wg_sub]
        simp only [we_call, wa_cons, wa_nil, we_var, List.getElem?_cons_zero, List.getElem?_cons_succ, ex_some]
        refine (draw_ok n (asks : Int) S9 p9 (by omega) (by omega)).mono ?_
        rintro x S10 ⟨⟨t, rfl, ht⟩, p10, f10⟩
        have h10 := f10 q8 _ hq8 (f9 q8 _ hq8 h8)
        have hlt : t < (cs8.map cD).length := by rw [List.length_map, ok8.1]; omega
        refine ⟨_, set_at h10 hlt, ?_⟩
        refine fin (cs9 := cs8.set t c) (p10.set hq8) (((f8.trans f9).trans f10).set' hql) ?_ ⟨by rw [List.length_set]; exact ok8.1, fun c' hc' => ?_⟩
        · rw [get_set h10, List.map_set]
        · rcases List.mem_or_eq_of_mem_set hc' with z | z
          · exact ok8.2 c' z
          · rw [z]; exact hc
      · simp only [hd0, decide_false, Bool.false_eq_true, if_false, ws_next]
        exact fin p7 (f6.trans f7) (f7 q _ (by have := p5.lt; omega) h6) okc
    · simp only [hi0, decide_false, Bool.false_eq_true, if_false, ws_next]
      exact fin p6 f6 h6 okc
  · rintro l S5 ⟨p5, f5, rs, hl5, ok5, h5, y7, y8, rfl⟩
    simp only [wo_run, ws_seq, ws_if, wt_e, we_op, we_un, we_var, we_c, ws_asg, ws_ret, ws_drop, ws_next, ws_break, ws_cont, wg_name, wg_sub, wg_tup, wg_nil, wg_cons, wg_dput, we_call, we_methL, we_methS, wa_cons, wa_nil, wt_and, wt_or, wt_not, we_and, we_or, we_not, we_if, wo_I0, wo_I, wo_plusAI, wo_plusAT, we_slA, wp_none, wp_some, ex_int1, wo_slT, wo_intAB, wo_times, wo_ixT, wo_ixL, wo_ixAT, wo_ixAL, wo_ixAS, wo_lenT, wo_lenL, wo_lenAT, wo_lenAL, wo_lenAS, wo_abs, wo_intB, wo_tup, wo_lst, wo_tupleL, wo_eqI, wo_eqB, wo_eqSt, wo_neS, wo_neB, wo_neI, wo_is, wo_isnot, wo_str, wo_isI_bl, wo_isI_int, wo_isI_str, wo_isI_tup, wo_isI_non, isI_same, List.map_cons, List.map_nil, List.length_cons, List.length_nil, Nat.reduceAdd, Nat.reduceSub, List.replicate, List.cons_append, List.nil_append, List.getElem?_cons_zero, List.getElem?_cons_succ, List.set_cons_zero, List.set_cons_succ, ex_some, ex_some1, ex_bl, ex_int, at3_0, at3_1, at3_2, at2_0, at2_1, lstOf_last, decide_eq_true_eq, lst_of h5, sz2, true_and]
    exact ⟨⟨rs, rfl, ha1, ha4, by omega, by omega, by rw [hl5]; exact ok5⟩, p5, f5⟩
end M
namespace M
open PySem L3 G
noncomputable def nt (k : Nat) : Str := toString (k : Int)
noncomputable def pt : Option Nat → Str
  | none => "-"
  | some k => nt k
noncomputable def gd (c : Nat) : Bool := c == 45 || (48 ≤ c && c ≤ 57)
theorem nt_tab : ∀ k : Fin 24, ((nt k.val).cps.toList.all gd && decide ((nt k.val).length ≤ 2) && decide (nt k.val ≠ "-")) = true := by decide +kernel
theorem nt_inj' : ∀ (k : Fin 24) (j : Fin 24), nt k.val = nt j.val → k = j := by decide +kernel
theorem nt_one : ∀ k : Fin 4, nt k.val = ⟨#[48 + k.val]⟩ := by decide +kernel
theorem nt_ok {k : Nat} (h : k < 24) : (∀ c ∈ (nt k).cps.toList, gd c = true) ∧ (nt k).length ≤ 2 ∧ nt k ≠ "-" := by
  have := nt_tab ⟨k, h⟩
  simp only [Bool.and_eq_true, decide_eq_true_eq, List.all_eq_true] at this
  exact ⟨this.1.1, this.1.2, this.2⟩
theorem nt_inj {k j : Nat} (h : k < 24) (h2 : j < 24) (e : nt k = nt j) : k = j := congrArg Fin.val (nt_inj' ⟨k, h⟩ ⟨j, h2⟩ e)
theorem pt_ok {g : Option Nat} (h : ∀ k, g = some k → k < 24) : (∀ c ∈ (pt g).cps.toList, gd c = true) ∧ (pt g).length ≤ 2 := by
  cases g with
  | none => exact ⟨by decide +kernel, by decide +kernel⟩
  | some k => exact ⟨(nt_ok (h k rfl)).1, (nt_ok (h k rfl)).2.1⟩
noncomputable def ct (c : Cl) : Str := pt c.1 ++ "/" ++ pt c.2
noncomputable def rt (cs : List Cl) : Str := Str.join " " (cs.map ct)
noncomputable def mt (asks : Nat) (rs : List (List Cl)) : Str := nt asks ++ ": " ++ Str.join " | " (rs.map rt)
theorem mk_slash : TX.Mk "/" 47 0 := ⟨by decide +kernel, fun i h => by omega, by decide +kernel⟩
theorem mk_blank : TX.Mk " " 32 0 := ⟨by decide +kernel, fun i h => by omega, by decide +kernel⟩
theorem mk_colon : TX.Mk ": " 58 0 := ⟨by decide +kernel, fun i h => by omega, by decide +kernel⟩
theorem mk_bar : TX.Mk " | " 124 1 := ⟨by decide +kernel, (fun i h => by
    have e : i = 0 := by omega
    subst e; decide +kernel), by decide +kernel⟩
theorem OkC.p1 {m : Nat} {c : Cl} (h : OkC m c) (hm : m ≤ 24) : ∀ k, c.1 = some k → k < 24 := fun k e => Nat.lt_of_lt_of_le (h.1 k e) hm
theorem OkC.p2 {m : Nat} {c : Cl} (h : OkC m c) : ∀ k, c.2 = some k → k < 24 := fun k e => Nat.lt_of_lt_of_le (h.2 k e) (by decide)
theorem ct_sign {m : Nat} {c : Cl} (h : OkC m c) (hm : m ≤ 24) {k : Nat} (hk : k ∈ (ct c).cps.toList) : gd k = true ∨ k = 47 := by
  unfold ct at hk
  simp only [Str.cps_append, Array.toList_append, List.mem_append] at hk
  rcases hk with (hk | hk) | hk
  · exact .inl ((pt_ok (h.p1 hm)).1 k hk)
  · exact .inr (by revert hk; have e : ("/" : Str).cps.toList = [47] := by decide +kernel
                   rw [e]; intro hk; exact List.mem_singleton.mp hk)
  · exact .inl ((pt_ok h.p2).1 k hk)
theorem ct_len {m : Nat} {c : Cl} (h : OkC m c) (hm : m ≤ 24) : (ct c).length ≤ 5 := by
  have h1 := (pt_ok (h.p1 hm)).2
  have h2 := (pt_ok h.p2).2
  have e : ("/" : Str).length = 1 := by decide +kernel
  unfold ct
  rw [Str.length_append, Str.length_append]; omega
theorem gd_not {k : Nat} (h : gd k = true ∨ k = 47) : k ≠ 32 ∧ k ≠ 124 ∧ k ≠ 58 := by
  rcases h with h | h
  · unfold gd at h
    simp only [Bool.or_eq_true, Bool.and_eq_true, beq_iff_eq, decide_eq_true_eq] at h
    omega
  · omega
theorem gd_not47 {k : Nat} (h : gd k = true) : k ≠ 47 := by
  unfold gd at h
  simp only [Bool.or_eq_true, Bool.and_eq_true, beq_iff_eq, decide_eq_true_eq] at h
  omega
theorem cell_split {m : Nat} {c : Cl} (h : OkC m c) (hm : m ≤ 24) : Txt.split (ct c) "/" = [pt c.1, pt c.2] := by
  refine TX.split_join mk_slash [pt c.1, pt c.2] (by simp) fun p hp hk => ?_
  rcases List.mem_cons.mp hp with rfl | hp
  · exact gd_not47 ((pt_ok (h.p1 hm)).1 _ hk) rfl
  · rw [List.mem_singleton.mp hp] at hk
    exact gd_not47 ((pt_ok h.p2).1 _ hk) rfl
theorem room_split {m asks : Nat} {cs : List Cl} (h : OkR m asks cs) (hm : m ≤ 24) (ha : 1 ≤ asks) : Txt.split (rt cs) " " = cs.map ct := by
  refine TX.split_join mk_blank (cs.map ct) (fun z => ?_) fun p hp hk => ?_
  · have := congrArg List.length z
    rw [List.length_map, h.1] at this
    simp at this; omega
  · obtain ⟨c, hc, rfl⟩ := List.mem_map.mp hp
    exact (gd_not (ct_sign (h.2 c hc) hm hk)).1 rfl
theorem rt_sign {m asks : Nat} {cs : List Cl} (h : OkR m asks cs) (hm : m ≤ 24) {k : Nat} (hk : k ∈ (rt cs).cps.toList) : k ≠ 124 := by
  rcases TX.mem_join _ hk with hk | ⟨p, hp, hk⟩
  · have e : (" " : Str).cps.toList = [32] := by decide +kernel
    rw [e] at hk
    rw [List.mem_singleton.mp hk]; decide
  · obtain ⟨c, hc, rfl⟩ := List.mem_map.mp hp
    exact (gd_not (ct_sign (h.2 c hc) hm hk)).2.1
theorem rooms_split {asks : Nat} {rs : List (List Cl)} (h : OkM asks rs) : Txt.split (Str.join " | " (rs.map rt)) " | " = rs.map rt := by
  refine TX.split_join mk_bar (rs.map rt) (fun z => ?_) fun p hp hk => ?_
  · have e := congrArg List.length z
    have := h.r1
    rw [List.length_map] at e
    simp at e
    rw [e] at this
    simp at this
  · obtain ⟨cs, hc, rfl⟩ := List.mem_map.mp hp
    exact rt_sign (h.ok cs hc) h.r24 hk rfl
theorem head_part {asks : Nat} {rs : List (List Cl)} (h : OkM asks rs) : Txt.partition (mt asks rs) ": " = (nt asks, (": " : Str), Str.join " | " (rs.map rt)) := by
  refine TX.partn mk_colon (nt asks) _ fun hk => ?_
  exact (gd_not (.inl ((nt_ok (by have := h.a4; omega)).1 _ hk))).2.2 rfl
theorem sum_lens {B : Nat} : ∀ (ts : List Str), (∀ t ∈ ts, t.length ≤ B) → (ts.map (·.length)).sum ≤ B * ts.length
  | [], _ => by simp
  | t :: ts, h => by
    have h1 := h t List.mem_cons_self
    have h2 := sum_lens ts fun u hu => h u (List.mem_cons_of_mem _ hu)
    simp only [List.map_cons, List.sum_cons, List.length_cons, Nat.mul_add, Nat.mul_one]; omega
theorem cts_sum {m asks : Nat} {cs : List Cl} (h : OkR m asks cs) (hm : m ≤ 24) (ha : asks ≤ 4) : ((cs.map ct).map (·.length)).sum + (cs.map ct).length * (" " : Str).length ≤ 24 := by
  have h1 := sum_lens (B := 5) (cs.map ct) fun t ht => by
    obtain ⟨c, hc, rfl⟩ := List.mem_map.mp ht
    exact ct_len (h.2 c hc) hm
  have e : (" " : Str).length = 1 := by decide +kernel
  rw [List.length_map, h.1] at h1
  rw [e, List.length_map, h.1]; omega
theorem rt_len {m asks : Nat} {cs : List Cl} (h : OkR m asks cs) (hm : m ≤ 24) (ha : asks ≤ 4) : (rt cs).length ≤ 24 := Nat.le_trans (StrLaws.join_length_le _ _) (cts_sum h hm ha)
theorem rts_sum {asks : Nat} {rs : List (List Cl)} (h : OkM asks rs) : ((rs.map rt).map (·.length)).sum + (rs.map rt).length * (" | " : Str).length ≤ 700 := by
  have h1 := sum_lens (B := 24) (rs.map rt) fun t ht => by
    obtain ⟨cs, hc, rfl⟩ := List.mem_map.mp ht
    exact rt_len (h.ok cs hc) h.r24 h.a4
  have e : (" | " : Str).length = 3 := by decide +kernel
  have := h.r24
  rw [List.length_map] at h1
  rw [e, List.length_map]; omega
theorem jt_len {asks : Nat} {rs : List (List Cl)} (h : OkM asks rs) : (Str.join " | " (rs.map rt)).length ≤ 700 := Nat.le_trans (StrLaws.join_length_le _ _) (rts_sum h)
theorem nt_len {k : Nat} (h : k < 24) : (nt k).length ≤ 2 := (nt_ok h).2.1
theorem sep_len : (": " : Str).length = 2 := by decide +kernel
theorem mt_len {asks : Nat} {rs : List (List Cl)} (h : OkM asks rs) : (mt asks rs).length ≤ 704 := by
  have h1 := jt_len h
  have h2 := nt_len (k := asks) (by have := h.a4; omega)
  unfold mt
  rw [Str.length_append, Str.length_append, sep_len]; omega
theorem e_app (z : Str) : Str.empty ++ z = z := TX.str_ext (by rw [Str.cps_append]; show (#[] ++ z.cps).toList = _; simp)
end M
namespace M
open PySem L3 G
theorem wo_eq {o : Option (D × Sto)} {x : D} {S : Sto} (h : Wo o fun v S' => v = x ∧ S' = S) : o = some (x, S) := by
  obtain ⟨v, S', e, rfl, rfl⟩ := h; exact e
theorem show_part_eq {g : Option Nat} {S : Sto} (h : ∀ k, g = some k → k < 24) : m_show_part [oD g] S = some (.str (pt g), S) := by
  apply wo_eq
  unfold m_show_part b_show_part
  simp only [wo_run, List.map_cons, List.map_nil, List.length_cons, List.length_nil, Nat.reduceAdd, Nat.reduceSub, List.replicate, List.cons_append, List.nil_append]
  cases g with
  | none => simp only [wo_run, ws_seq, ws_if, wt_e, we_op, we_un, we_var, we_c, ws_asg, ws_ret, ws_drop, ws_next, ws_break, ws_cont, wg_name, wg_sub, wg_tup, wg_nil, wg_cons, wg_dput, we_call, we_methL, we_methS, wa_cons, wa_nil, wt_and, wt_or, wt_not, we_and, we_or, we_not, we_if, wo_I0, wo_I, wo_plusAI, wo_plusAT, we_slA, wp_none, wp_some, ex_int1, wo_slT, wo_intAB, wo_times, wo_ixT, wo_ixL, wo_ixAT, wo_ixAL, wo_ixAS, wo_lenT, wo_lenL, wo_lenAT, wo_lenAL, wo_lenAS, wo_abs, wo_intB, wo_tup, wo_lst, wo_tupleL, wo_eqI, wo_eqB, wo_eqSt, wo_neS, wo_neB, wo_neI, wo_is, wo_isnot, wo_str, wo_isI_bl, wo_isI_int, wo_isI_str, wo_isI_tup, wo_isI_non, isI_same, List.map_cons, List.map_nil, List.length_cons, List.length_nil, Nat.reduceAdd, Nat.reduceSub, List.replicate, List.cons_append, List.nil_append, List.getElem?_cons_zero, List.getElem?_cons_succ, List.set_cons_zero, List.set_cons_succ, ex_some, ex_some1, ex_bl, ex_int, at3_0, at3_1, at3_2, at2_0, at2_1, lstOf_last, decide_eq_true_eq, oD, isNon, if_true, pt, and_self]
  | some k => simp only [wo_run, ws_seq, ws_if, wt_e, we_op, we_un, we_var, we_c, ws_asg, ws_ret, ws_drop, ws_next, ws_break, ws_cont, wg_name, wg_sub, wg_tup, wg_nil, wg_cons, wg_dput, we_call, we_methL, we_methS, wa_cons, wa_nil, wt_and, wt_or, wt_not, we_and, we_or, we_not, we_if, wo_I0, wo_I, wo_plusAI, wo_plusAT, we_slA, wp_none, wp_some, ex_int1, wo_slT, wo_intAB, wo_times, wo_ixT, wo_ixL, wo_ixAT, wo_ixAL, wo_ixAS, wo_lenT, wo_lenL, wo_lenAT, wo_lenAL, wo_lenAS, wo_abs, wo_intB, wo_tup, wo_lst, wo_tupleL, wo_eqI, wo_eqB, wo_eqSt, wo_neS, wo_neB, wo_neI, wo_is, wo_isnot, wo_str, wo_isI_bl, wo_isI_int, wo_isI_str, wo_isI_tup, wo_isI_non, isI_same, List.map_cons, List.map_nil, List.length_cons, List.length_nil, Nat.reduceAdd, Nat.reduceSub, List.replicate, List.cons_append, List.nil_append, List.getElem?_cons_zero, List.getElem?_cons_succ, List.set_cons_zero, List.set_cons_succ, ex_some, ex_some1, ex_bl, ex_int, at3_0, at3_1, at3_2, at2_0, at2_1, lstOf_last, decide_eq_true_eq, oD, isNon, Bool.false_eq_true, if_false, pt, nt, and_self, small_log2 (Nat.lt_of_lt_of_le (h k rfl) (by decide))]
theorem law_part_eq {g : Option Nat} {S : Sto} (h : ∀ k, g = some k → k < 24) : m_law_part_text [oD g] S = some (.str (pt g), S) := by
  apply wo_eq
  unfold m_law_part_text b_law_part_text
  simp only [wo_run, List.map_cons, List.map_nil, List.length_cons, List.length_nil, Nat.reduceAdd, Nat.reduceSub, List.replicate, List.cons_append, List.nil_append]
  cases g with
  | none => simp only [wo_run, ws_seq, ws_if, wt_e, we_op, we_un, we_var, we_c, ws_asg, ws_ret, ws_drop, ws_next, ws_break, ws_cont, wg_name, wg_sub, wg_tup, wg_nil, wg_cons, wg_dput, we_call, we_methL, we_methS, wa_cons, wa_nil, wt_and, wt_or, wt_not, we_and, we_or, we_not, we_if, wo_I0, wo_I, wo_plusAI, wo_plusAT, we_slA, wp_none, wp_some, ex_int1, wo_slT, wo_intAB, wo_times, wo_ixT, wo_ixL, wo_ixAT, wo_ixAL, wo_ixAS, wo_lenT, wo_lenL, wo_lenAT, wo_lenAL, wo_lenAS, wo_abs, wo_intB, wo_tup, wo_lst, wo_tupleL, wo_eqI, wo_eqB, wo_eqSt, wo_neS, wo_neB, wo_neI, wo_is, wo_isnot, wo_str, wo_isI_bl, wo_isI_int, wo_isI_str, wo_isI_tup, wo_isI_non, isI_same, List.map_cons, List.map_nil, List.length_cons, List.length_nil, Nat.reduceAdd, Nat.reduceSub, List.replicate, List.cons_append, List.nil_append, List.getElem?_cons_zero, List.getElem?_cons_succ, List.set_cons_zero, List.set_cons_succ, ex_some, ex_some1, ex_bl, ex_int, at3_0, at3_1, at3_2, at2_0, at2_1, lstOf_last, decide_eq_true_eq, oD, isNon, if_true, pt, and_self]
  | some k => simp only [wo_run, ws_seq, ws_if, wt_e, we_op, we_un, we_var, we_c, ws_asg, ws_ret, ws_drop, ws_next, ws_break, ws_cont, wg_name, wg_sub, wg_tup, wg_nil, wg_cons, wg_dput, we_call, we_methL, we_methS, wa_cons, wa_nil, wt_and, wt_or, wt_not, we_and, we_or, we_not, we_if, wo_I0, wo_I, wo_plusAI, wo_plusAT, we_slA, wp_none, wp_some, ex_int1, wo_slT, wo_intAB, wo_times, wo_ixT, wo_ixL, wo_ixAT, wo_ixAL, wo_ixAS, wo_lenT, wo_lenL, wo_lenAT, wo_lenAL, wo_lenAS, wo_abs, wo_intB, wo_tup, wo_lst, wo_tupleL, wo_eqI, wo_eqB, wo_eqSt, wo_neS, wo_neB, wo_neI, wo_is, wo_isnot, wo_str, wo_isI_bl, wo_isI_int, wo_isI_str, wo_isI_tup, wo_isI_non, isI_same, List.map_cons, List.map_nil, List.length_cons, List.length_nil, Nat.reduceAdd, Nat.reduceSub, List.replicate, List.cons_append, List.nil_append, List.getElem?_cons_zero, List.getElem?_cons_succ, List.set_cons_zero, List.set_cons_succ, ex_some, ex_some1, ex_bl, ex_int, at3_0, at3_1, at3_2, at2_0, at2_1, lstOf_last, decide_eq_true_eq, oD, isNon, Bool.false_eq_true, if_false, pt, nt, and_self, small_log2 (Nat.lt_of_lt_of_le (h k rfl) (by decide))]
theorem big_ok {n : Nat} (h : n ≤ 10000) : n ≤ sizeLine := Nat.le_trans h (by decide)
theorem show_cell_eq {m : Nat} {c : Cl} {S : Sto} (h : OkC m c) (hm : m ≤ 24) : m_show_cell [cD c] S = some (.str (ct c), S) := by
  have l1 := (pt_ok (h.p1 hm)).2
  have l2 := (pt_ok h.p2).2
  have e : ("/" : Str).length = 1 := by decide +kernel
  have z1 : (pt c.1).length ≤ sizeLine := big_ok (by omega)
  have z2 : (pt c.2).length ≤ sizeLine := big_ok (by omega)
  have z3 : (pt c.1 ++ "/").length ≤ sizeLine := big_ok (by rw [Str.length_append]; omega)
  have z4 : (pt c.1 ++ "/" ++ pt c.2).length ≤ sizeLine := big_ok (by rw [Str.length_append, Str.length_append]; omega)
  apply wo_eq
  unfold m_show_cell b_show_cell cD
  simp only [wo_run, List.map_cons, List.map_nil, List.length_cons, List.length_nil, Nat.reduceAdd, Nat.reduceSub, List.replicate, List.cons_append, List.nil_append]
  simp only [ws_ret, we_jp1, we_jp0, we_fv, we_call, wa_cons, wa_nil, we_op, we_var, we_c, List.getElem?_cons_zero, ex_some, wo_ixAT, at2_0, at2_1, ex_some1, show_part_eq (h.p1 hm), show_part_eq h.p2, wo_some]
  refine ⟨_, if_pos z1, _, rfl, ?_, _, rfl, ?_, _, if_pos z2, _, rfl, ?_, ?_, ?_⟩ <;> rw [e_app]
  · exact z1
  · exact z3
  · exact z4
  · exact z4
  · first | exact ⟨(by first | rfl | trivial), (by first | rfl | trivial)⟩ | exact ⟨(by first | rfl | trivial)⟩
theorem law_cell_eq {m : Nat} {c : Cl} {S : Sto} (h : OkC m c) (hm : m ≤ 24) : m_law_cell_text [cD c] S = some (.str (ct c), S) := by
  have l1 := (pt_ok (h.p1 hm)).2
  have l2 := (pt_ok h.p2).2
  have e : ("/" : Str).length = 1 := by decide +kernel
  have z3 : (pt c.1).length + ("/" : Str).length ≤ sizeLine := big_ok (by omega)
  have z4 : (pt c.1 ++ "/").length + (pt c.2).length ≤ sizeLine := big_ok (by rw [Str.length_append]; omega)
  apply wo_eq
  unfold m_law_cell_text b_law_cell_text cD
  simp only [wo_run, List.map_cons, List.map_nil, List.length_cons, List.length_nil, Nat.reduceAdd, Nat.reduceSub, List.replicate, List.cons_append, List.nil_append]
  simp only [ws_ret, we_call, wa_cons, wa_nil, we_op, we_var, we_c, List.getElem?_cons_zero, ex_some, wo_ixAT, at2_0, at2_1, ex_some1, law_part_eq (h.p1 hm), law_part_eq h.p2, wo_some, wo_plusAS, z3, z4, true_and]
  first | exact ⟨(by first | rfl | trivial), (by first | rfl | trivial)⟩ | exact ⟨(by first | rfl | trivial)⟩
theorem read_number_eq {k n : Nat} {S : Sto} (h : k < n) (hn : n ≤ 24) : m_read_number [.str (nt k), .int (n : Int)] S = some (.int (k : Int), S) := by
  apply wo_eq
  unfold m_read_number b_read_number
  simp only [wo_run, List.map_cons, List.map_nil, List.length_cons, List.length_nil, Nat.reduceAdd, Nat.reduceSub, List.replicate, List.cons_append, List.nil_append]
  rw [ws_seq]
  refine ws_rng (n := n) (fun i l S' => S' = S ∧ i ≤ k ∧ ∃ y, l = [some (.str (nt k)), some (.int (n : Int)), y]) (fun d S' => d = .int (k : Int) ∧ S' = S) rfl (by omega) ⟨rfl, Nat.zero_le _, _, rfl⟩ ?_ ?_ ?_
  · rintro i l S' hi ⟨rfl, hik, y, rfl⟩
    simp only [wo_run, ws_seq, ws_if, wt_e, we_op, we_un, we_var, we_c, ws_asg, ws_ret, ws_drop, ws_next, ws_break, ws_cont, wg_name, wg_sub, wg_tup, wg_nil, wg_cons, wg_dput, we_call, we_methL, we_methS, wa_cons, wa_nil, wt_and, wt_or, wt_not, we_and, we_or, we_not, we_if, wo_I0, wo_I, wo_plusAI, wo_plusAT, we_slA, wp_none, wp_some, ex_int1, wo_slT, wo_intAB, wo_times, wo_ixT, wo_ixL, wo_ixAT, wo_ixAL, wo_ixAS, wo_lenT, wo_lenL, wo_lenAT, wo_lenAL, wo_lenAS, wo_abs, wo_intB, wo_tup, wo_lst, wo_tupleL, wo_eqI, wo_eqB, wo_eqSt, wo_neS, wo_neB, wo_neI, wo_is, wo_isnot, wo_str, wo_isI_bl, wo_isI_int, wo_isI_str, wo_isI_tup, wo_isI_non, isI_same, List.map_cons, List.map_nil, List.length_cons, List.length_nil, Nat.reduceAdd, Nat.reduceSub, List.replicate, List.cons_append, List.nil_append, List.getElem?_cons_zero, List.getElem?_cons_succ, List.set_cons_zero, List.set_cons_succ, ex_some, ex_some1, ex_bl, ex_int, at3_0, at3_1, at3_2, at2_0, at2_1, lstOf_last, decide_eq_true_eq, small_log2 (Nat.lt_of_lt_of_le hi (Nat.le_trans hn (by decide))), true_and]
    by_cases e : i = k
    · subst e
      have : nt i = toString (i : Int) := rfl
      simp only [this, decide_true, if_true]
      first | exact .inr ⟨_, rfl, rfl, rfl⟩ | exact .inr ⟨_, (by first | rfl | trivial), (by first | rfl | trivial)⟩ | exact .inr ⟨_, (by first | rfl | trivial), (by first | rfl | trivial), (by first | rfl | trivial)⟩
    · have : ¬ nt k = toString (i : Int) := fun z => e (nt_inj (by omega) (by omega) z).symm
      simp only [this, decide_false, Bool.false_eq_true, if_false]
      first | exact .inl ⟨(by first | exact .inl rfl | exact .inl trivial | trivial), (by first | rfl | trivial), by omega, _, rfl⟩ | exact .inl ⟨(by first | exact .inl rfl | exact .inl trivial | trivial), by omega, _, rfl⟩ | exact ⟨by omega, _, rfl⟩ | exact .inl ⟨by omega, _, rfl⟩
  · rintro l S' ⟨_, hk, _⟩; omega
  · rintro d l S' ⟨rfl, rfl⟩; exact ⟨rfl, rfl⟩
theorem read_part_eq {g : Option Nat} {n : Nat} {S : Sto} (h : ∀ k, g = some k → k < n) (hn : n ≤ 24) : m_read_part [.str (pt g), .int (n : Int)] S = some (oD g, S) := by
  apply wo_eq
  unfold m_read_part b_read_part
  simp only [wo_run, List.map_cons, List.map_nil, List.length_cons, List.length_nil, Nat.reduceAdd, Nat.reduceSub, List.replicate, List.cons_append, List.nil_append]
  cases g with
  | none => simp only [wo_run, ws_seq, ws_if, wt_e, we_op, we_un, we_var, we_c, ws_asg, ws_ret, ws_drop, ws_next, ws_break, ws_cont, wg_name, wg_sub, wg_tup, wg_nil, wg_cons, wg_dput, we_call, we_methL, we_methS, wa_cons, wa_nil, wt_and, wt_or, wt_not, we_and, we_or, we_not, we_if, wo_I0, wo_I, wo_plusAI, wo_plusAT, we_slA, wp_none, wp_some, ex_int1, wo_slT, wo_intAB, wo_times, wo_ixT, wo_ixL, wo_ixAT, wo_ixAL, wo_ixAS, wo_lenT, wo_lenL, wo_lenAT, wo_lenAL, wo_lenAS, wo_abs, wo_intB, wo_tup, wo_lst, wo_tupleL, wo_eqI, wo_eqB, wo_eqSt, wo_neS, wo_neB, wo_neI, wo_is, wo_isnot, wo_str, wo_isI_bl, wo_isI_int, wo_isI_str, wo_isI_tup, wo_isI_non, isI_same, List.map_cons, List.map_nil, List.length_cons, List.length_nil, Nat.reduceAdd, Nat.reduceSub, List.replicate, List.cons_append, List.nil_append, List.getElem?_cons_zero, List.getElem?_cons_succ, List.set_cons_zero, List.set_cons_succ, ex_some, ex_some1, ex_bl, ex_int, at3_0, at3_1, at3_2, at2_0, at2_1, lstOf_last, decide_eq_true_eq, pt, decide_true, if_true, oD, and_self]
  | some k =>
    have e : ¬ nt k = "-" := (nt_ok (by have := h k rfl; omega)).2.2
    simp only [wo_run, ws_seq, ws_if, wt_e, we_op, we_un, we_var, we_c, ws_asg, ws_ret, ws_drop, ws_next, ws_break, ws_cont, wg_name, wg_sub, wg_tup, wg_nil, wg_cons, wg_dput, we_call, we_methL, we_methS, wa_cons, wa_nil, wt_and, wt_or, wt_not, we_and, we_or, we_not, we_if, wo_I0, wo_I, wo_plusAI, wo_plusAT, we_slA, wp_none, wp_some, ex_int1, wo_slT, wo_intAB, wo_times, wo_ixT, wo_ixL, wo_ixAT, wo_ixAL, wo_ixAS, wo_lenT, wo_lenL, wo_lenAT, wo_lenAL, wo_lenAS, wo_abs, wo_intB, wo_tup, wo_lst, wo_tupleL, wo_eqI, wo_eqB, wo_eqSt, wo_neS, wo_neB, wo_neI, wo_is, wo_isnot, wo_str, wo_isI_bl, wo_isI_int, wo_isI_str, wo_isI_tup, wo_isI_non, isI_same, List.map_cons, List.map_nil, List.length_cons, List.length_nil, Nat.reduceAdd, Nat.reduceSub, List.replicate, List.cons_append, List.nil_append, List.getElem?_cons_zero, List.getElem?_cons_succ, List.set_cons_zero, List.set_cons_succ, ex_some, ex_some1, ex_bl, ex_int, at3_0, at3_1, at3_2, at2_0, at2_1, lstOf_last, decide_eq_true_eq, pt, e, decide_false, Bool.false_eq_true, if_false, read_number_eq (h k rfl) hn, wo_some, oD, and_self]
theorem refuse_eq {z : Str} {S : Sto} : m_refuse_no_text [.str z] S = some (.non, S) := by
  apply wo_eq
  unfold m_refuse_no_text b_refuse_no_text
  simp only [wo_run, List.map_cons, List.map_nil, List.length_cons, List.length_nil, Nat.reduceAdd, Nat.reduceSub, List.replicate, List.cons_append, List.nil_append]
  simp only [wo_run, ws_seq, ws_if, wt_e, we_op, we_un, we_var, we_c, ws_asg, ws_ret, ws_drop, ws_next, ws_break, ws_cont, wg_name, wg_sub, wg_tup, wg_nil, wg_cons, wg_dput, we_call, we_methL, we_methS, wa_cons, wa_nil, wt_and, wt_or, wt_not, we_and, we_or, we_not, we_if, wo_I0, wo_I, wo_plusAI, wo_plusAT, we_slA, wp_none, wp_some, ex_int1, wo_slT, wo_intAB, wo_times, wo_ixT, wo_ixL, wo_ixAT, wo_ixAL, wo_ixAS, wo_lenT, wo_lenL, wo_lenAT, wo_lenAL, wo_lenAS, wo_abs, wo_intB, wo_tup, wo_lst, wo_tupleL, wo_eqI, wo_eqB, wo_eqSt, wo_neS, wo_neB, wo_neI, wo_is, wo_isnot, wo_str, wo_isI_bl, wo_isI_int, wo_isI_str, wo_isI_tup, wo_isI_non, isI_same, List.map_cons, List.map_nil, List.length_cons, List.length_nil, Nat.reduceAdd, Nat.reduceSub, List.replicate, List.cons_append, List.nil_append, List.getElem?_cons_zero, List.getElem?_cons_succ, List.set_cons_zero, List.set_cons_succ, ex_some, ex_some1, ex_bl, ex_int, at3_0, at3_1, at3_2, at2_0, at2_1, lstOf_last, decide_eq_true_eq, Bool.not_true, Bool.false_eq_true, if_false, and_self]
theorem read_cell_ok {m : Nat} {c : Cl} {S : Sto} (h : OkC m c) (hm : m ≤ 24) : Wo (m_read_cell [.str (ct c)] S) fun v S' => v = cD c ∧ Gr S S' := by
  have l1 := ct_len h hm
  have e : ("/" : Str).length ≠ 0 := by decide +kernel
  have z : (ct c).length + 2 ≤ sizeLine := big_ok (by omega)
  have sz2 : 2 ≤ sizeLine := by decide
  have e2 := cell_split h hm
  have r1 : ∀ S, m_read_part [.str (pt c.1), .int 24] S = some (oD c.1, S) := fun S => read_part_eq (n := 24) (h.p1 hm) (by decide)
  have r2 : ∀ S, m_read_part [.str (pt c.2), .int 8] S = some (oD c.2, S) := fun S => read_part_eq (n := 8) h.2 (by decide)
  unfold m_read_cell b_read_cell
  simp only [wo_run, List.map_cons, List.map_nil, List.length_cons, List.length_nil, Nat.reduceAdd, Nat.reduceSub, List.replicate, List.cons_append, List.nil_append]
  refine ws_cut (fun l S' => S' = S ∧ l = [some (.str (ct c)), none]) ?_ ?_
  · simp only [wo_run, ws_seq, ws_if, wt_e, we_op, we_un, we_var, we_c, ws_asg, ws_ret, ws_drop, ws_next, ws_break, ws_cont, wg_name, wg_sub, wg_tup, wg_nil, wg_cons, wg_dput, we_call, we_methL, we_methS, wa_cons, wa_nil, wt_and, wt_or, wt_not, we_and, we_or, we_not, we_if, wo_I0, wo_I, wo_plusAI, wo_plusAT, we_slA, wp_none, wp_some, ex_int1, wo_slT, wo_intAB, wo_times, wo_ixT, wo_ixL, wo_ixAT, wo_ixAL, wo_ixAS, wo_lenT, wo_lenL, wo_lenAT, wo_lenAL, wo_lenAS, wo_abs, wo_intB, wo_tup, wo_lst, wo_tupleL, wo_eqI, wo_eqB, wo_eqSt, wo_neS, wo_neB, wo_neI, wo_is, wo_isnot, wo_str, wo_isI_bl, wo_isI_int, wo_isI_str, wo_isI_tup, wo_isI_non, isI_same, List.map_cons, List.map_nil, List.length_cons, List.length_nil, Nat.reduceAdd, Nat.reduceSub, List.replicate, List.cons_append, List.nil_append, List.getElem?_cons_zero, List.getElem?_cons_succ, List.set_cons_zero, List.set_cons_succ, ex_some, ex_some1, ex_bl, ex_int, at3_0, at3_1, at3_2, at2_0, at2_1, lstOf_last, decide_eq_true_eq, refuse_eq, wo_some, and_self]
  rintro l S1 ⟨rfl, rfl⟩
  refine ws_cut (fun l S' => S' = S1 ++ [.lst [.str (pt c.1), .str (pt c.2)]] ∧ l = [some (.str (ct c)), some (.ref S1.length)]) ?_ ?_
  · simp only [wo_run, ws_seq, ws_if, wt_e, we_op, we_un, we_var, we_c, ws_asg, ws_ret, ws_drop, ws_next, ws_break, ws_cont, wg_name, wg_sub, wg_tup, wg_nil, wg_cons, wg_dput, we_call, we_methL, we_methS, wa_cons, wa_nil, wt_and, wt_or, wt_not, we_and, we_or, we_not, we_if, wo_I0, wo_I, wo_plusAI, wo_plusAT, we_slA, wp_none, wp_some, ex_int1, wo_slT, wo_intAB, wo_times, wo_ixT, wo_ixL, wo_ixAT, wo_ixAL, wo_ixAS, wo_lenT, wo_lenL, wo_lenAT, wo_lenAL, wo_lenAS, wo_abs, wo_intB, wo_tup, wo_lst, wo_tupleL, wo_eqI, wo_eqB, wo_eqSt, wo_neS, wo_neB, wo_neI, wo_is, wo_isnot, wo_str, wo_isI_bl, wo_isI_int, wo_isI_str, wo_isI_tup, wo_isI_non, isI_same, List.map_cons, List.map_nil, List.length_cons, List.length_nil, Nat.reduceAdd, Nat.reduceSub, List.replicate, List.cons_append, List.nil_append, List.getElem?_cons_zero, List.getElem?_cons_succ, List.set_cons_zero, List.set_cons_succ, ex_some, ex_some1, ex_bl, ex_int, at3_0, at3_1, at3_2, at2_0, at2_1, lstOf_last, decide_eq_true_eq, recvS, wo_split, ne_eq, e, not_false_eq_true, z, e2, true_and, and_self]
  rintro l S2 ⟨rfl, rfl⟩
  simp only [wo_run, ws_seq, ws_if, wt_e, we_op, we_un, we_var, we_c, ws_asg, ws_ret, ws_drop, ws_next, ws_break, ws_cont, wg_name, wg_sub, wg_tup, wg_nil, wg_cons, wg_dput, we_call, we_methL, we_methS, wa_cons, wa_nil, wt_and, wt_or, wt_not, we_and, we_or, we_not, we_if, wo_I0, wo_I, wo_plusAI, wo_plusAT, we_slA, wp_none, wp_some, ex_int1, wo_slT, wo_intAB, wo_times, wo_ixT, wo_ixL, wo_ixAT, wo_ixAL, wo_ixAS, wo_lenT, wo_lenL, wo_lenAT, wo_lenAL, wo_lenAS, wo_abs, wo_intB, wo_tup, wo_lst, wo_tupleL, wo_eqI, wo_eqB, wo_eqSt, wo_neS, wo_neB, wo_neI, wo_is, wo_isnot, wo_str, wo_isI_bl, wo_isI_int, wo_isI_str, wo_isI_tup, wo_isI_non, isI_same, List.map_cons, List.map_nil, List.length_cons, List.length_nil, Nat.reduceAdd, Nat.reduceSub, List.replicate, List.cons_append, List.nil_append, List.getElem?_cons_zero, List.getElem?_cons_succ, List.set_cons_zero, List.set_cons_succ, ex_some, ex_some1, ex_bl, ex_int, at3_0, at3_1, at3_2, at2_0, at2_1, lstOf_last, decide_eq_true_eq, decide_true, Bool.not_true, Bool.false_eq_true, if_false, r1, r2, wo_some, sz2, true_and]
  exact ⟨rfl, _, rfl⟩
end M
namespace M
open PySem L3 G
theorem map_txt {α : Type} (f : α → Str) (xs : List α) : xs.map (fun x => D.str (f x)) = (xs.map f).map D.str := by rw [List.map_map]; rfl
noncomputable abbrev eRoom (f : FM) : EM := eMethS mJoin (eC (.str " ")) (aCons (eComp (iVal (eVar 0)) [none] (gName3 0) (tTrue) (eCall f (aCons (eVar 0) (aNil)))) aNil)
theorem room_shown {m asks : Nat} {cs : List Cl} {f : FM} {S : Sto} (h : OkR m asks cs) (hm : m ≤ 24) (ha : asks ≤ 4) (hf : ∀ c ∈ cs, ∀ S, f [cD c] S = some (.str (ct c), S)) :
    We (eRoom f) [some (rD cs)] S fun v S' => v = .str (rt cs) ∧ Gr S S' := by
  rw [we_methS, we_c]
  refine ⟨rfl, ?_⟩
  rw [wa_cons]
  refine we_compA cs cD (fun c => .str (ct c)) (fun S' => S' = S) (fun l => ∃ y, l = [y]) (valT_im rfl) rfl ⟨_, rfl⟩ (fun i S _ => rfl) (big_ok (by rw [h.1]; omega)) ?_ ?_
  · rintro c l S' hc ⟨y, rfl⟩ rfl
    simp only [wg_name, List.set_cons_zero]
    refine ⟨⟨_, rfl⟩, ?_⟩
    simp only [we_call, wa_cons, wa_nil, we_var, List.getElem?_cons_zero, ex_some, hf c hc, wo_some, and_self]
  · rintro S' rfl
    rw [map_txt]
    simp only [wa_nil, wo_join, lstOf_last, ex_some1, strs_of]
    exact ⟨Nat.le_trans (cts_sum h hm ha) (by decide), rfl, _, rfl⟩
theorem rooms_shown {asks : Nat} {rs : List (List Cl)} {f : FM} {e : EM} {l : Lo} {S : Sto} {Q : D → Sto → Prop} (h : OkM asks rs) (he : e l S = some (.tup (rs.map rD), S)) (hf : ∀ c, OkC rs.length c → ∀ S, f [cD c] S = some (.str (ct c), S))
    (fin : ∀ S', Gr S S' → Q (.ref S'.length) (S' ++ [.lst ((rs.map rt).map D.str)])) : We (eComp (iVal e) [none] (gName3 0) (tTrue) (eRoom f)) l S Q := by
  refine we_compA rs rD (fun cs => .str (rt cs)) (fun S' => Gr S S') (fun l => ∃ y, l = [y]) (valT_im he) (Gr.refl S) ⟨_, rfl⟩ (fun i S _ => rfl) (big_ok (by have := h.r24; omega)) ?_ ?_
  · rintro cs l S' hc ⟨y, rfl⟩ g
    simp only [wg_name, List.set_cons_zero]
    refine ⟨⟨_, rfl⟩, ?_⟩
    refine Wo.mono (room_shown (h.ok cs hc) h.r24 h.a4 fun c hcc S => hf c ((h.ok cs hc).2 c hcc) S) ?_
    rintro v S2 ⟨rfl, g2⟩
    exact ⟨rfl, g.trans g2⟩
  · intro S' g
    rw [map_txt]
    exact fin S' g
theorem show_machine_ok {asks : Nat} {rs : List (List Cl)} {S : Sto} (h : OkM asks rs) : Wo (m_show_machine [mD asks rs] S) fun v S' => v = .str (mt asks rs) ∧ Gr S S' := by
  have a4 := h.a4
  have l1 := nt_len (k := asks) (by omega)
  have l2 := jt_len h
  have lg : ((asks : Nat) : Int).natAbs.log2 < 1920 := small_log2 (by omega)
  have s1 : (nt asks).length ≤ sizeLine := big_ok (by omega)
  have s2 : (nt asks ++ ": ").length ≤ sizeLine := big_ok (by rw [Str.length_append, sep_len]; omega)
  have s3 : (nt asks ++ ": ").length + (Str.join " | " (rs.map rt)).length ≤ sizeLine := big_ok (by rw [Str.length_append, sep_len]; omega)
  unfold m_show_machine b_show_machine mD
  simp only [wo_run, List.map_cons, List.map_nil, List.length_cons, List.length_nil, Nat.reduceAdd, Nat.reduceSub, List.replicate, List.cons_append, List.nil_append]
  refine ws_cut (fun l S' => S' = S ∧ l = [some (mD asks rs), some (.int (asks : Int)), some (.tup (rs.map rD)), none]) ?_ ?_
  · simp only [wo_run, ws_seq, ws_if, wt_e, we_op, we_un, we_var, we_c, ws_asg, ws_ret, ws_drop, ws_next, ws_break, ws_cont, wg_name, wg_sub, wg_tup, wg_nil, wg_cons, wg_dput, we_call, we_methL, we_methS, wa_cons, wa_nil, wt_and, wt_or, wt_not, we_and, we_or, we_not, we_if, wo_I0, wo_I, wo_plusAI, wo_plusAT, we_slA, wp_none, wp_some, ex_int1, wo_slT, wo_intAB, wo_times, wo_ixT, wo_ixL, wo_ixAT, wo_ixAL, wo_ixAS, wo_lenT, wo_lenL, wo_lenAT, wo_lenAL, wo_lenAS, wo_abs, wo_intB, wo_tup, wo_lst, wo_tupleL, wo_eqI, wo_eqB, wo_eqSt, wo_neS, wo_neB, wo_neI, wo_is, wo_isnot, wo_str, wo_isI_bl, wo_isI_int, wo_isI_str, wo_isI_tup, wo_isI_non, isI_same, List.map_cons, List.map_nil, List.length_cons, List.length_nil, Nat.reduceAdd, Nat.reduceSub, List.replicate, List.cons_append, List.nil_append, List.getElem?_cons_zero, List.getElem?_cons_succ, List.set_cons_zero, List.set_cons_succ, ex_some, ex_some1, ex_bl, ex_int, at3_0, at3_1, at3_2, at2_0, at2_1, lstOf_last, decide_eq_true_eq, mD, and_self]
  rintro l S1 ⟨rfl, rfl⟩
  refine ws_cut (fun l S' => Gr S1 S' ∧ ∃ n, lstOf S' n = some ((rs.map rt).map D.str) ∧ l = [some (mD asks rs), some (.int (asks : Int)), some (.tup (rs.map rD)), some (.ref n)]) ?_ ?_
  · rw [ws_asg]
    refine rooms_shown h rfl (fun c hc S => show_cell_eq hc h.r24) ?_
    intro S' g
    simp only [wg_name, List.set_cons_zero, List.set_cons_succ]
    first | exact ⟨(by first | rfl | trivial), g.push _, _, lstOf_last, rfl⟩ | exact ⟨g.push _, _, lstOf_last, rfl⟩
  rintro l S2 ⟨g, n, hn, rfl⟩
  have fe : fvD (.int (asks : Int)) = some (nt asks) := if_pos lg
  simp only [ws_ret, we_op, we_jp1, we_jp0, we_fv, we_methS, wa_cons, wa_nil, we_var, we_c, List.getElem?_cons_zero, List.getElem?_cons_succ, ex_some, ex_some1, fe, wo_join, hn, strs_of, recvS]
  refine ⟨_, rfl, ?_, _, rfl, ?_, ?_, (by first | rfl | trivial), Nat.le_trans (rts_sum h) (by decide), ?_⟩ <;> rw [e_app]
  · exact s1
  · exact s2
  · exact s2
  · rw [wo_plusAS]
    exact ⟨s3, (by first | rfl | trivial), g⟩
theorem law_text_ok {asks : Nat} {rs : List (List Cl)} {S : Sto} (h : OkM asks rs) : Wo (m_law_machine_text [mD asks rs] S) fun v S' => v = .str (mt asks rs) ∧ Gr S S' := by
  have a4 := h.a4
  have l1 := nt_len (k := asks) (by omega)
  have l2 := jt_len h
  have lg : ((asks : Nat) : Int).natAbs.log2 < 1920 := small_log2 (by omega)
  have s2 : (nt asks).length + (": " : Str).length ≤ sizeLine := big_ok (by rw [sep_len]; omega)
  have s3 : (nt asks ++ ": ").length + (Str.join " | " (rs.map rt)).length ≤ sizeLine := big_ok (by rw [Str.length_append, sep_len]; omega)
  unfold m_law_machine_text b_law_machine_text
  simp only [wo_run, List.map_cons, List.map_nil, List.length_cons, List.length_nil, Nat.reduceAdd, Nat.reduceSub, List.replicate, List.cons_append, List.nil_append]
  refine ws_cut (fun l S' => Gr S S' ∧ ∃ n, lstOf S' n = some ((rs.map rt).map D.str) ∧ l = [some (mD asks rs), some (.ref n)]) ?_ ?_
  · rw [ws_asg]
    refine rooms_shown h rfl (fun c hc S => law_cell_eq hc h.r24) ?_
    intro S' g
    simp only [wg_name, List.set_cons_zero, List.set_cons_succ]
    first | exact ⟨(by first | rfl | trivial), g.push _, _, lstOf_last, rfl⟩ | exact ⟨g.push _, _, lstOf_last, rfl⟩
  rintro l S2 ⟨g, n, hn, rfl⟩
  have e : (toString ((asks : Nat) : Int) : Str) = nt asks := rfl
  simp only [ws_ret, we_op, we_call, we_methS, wa_cons, wa_nil, we_var, we_c, List.getElem?_cons_zero, List.getElem?_cons_succ, ex_some, ex_some1, mD, wo_ixAT, at2_0, wo_str, lg, e, wo_plusAS, s2, wo_join, hn, strs_of, recvS, true_and, Nat.le_trans (rts_sum h) (show 700 ≤ 16777216 by decide), s3]
  exact ⟨rfl, g⟩
theorem we_chain {f g : D → D → Sto → Option (D × Sto)} {a b c : EM} {l : Lo} {S : Sto} {Q : D → Sto → Prop} : We (eChain f g a b c) l S Q = We a l S fun x S1 => We b l S1 fun y S2 => Wo (f x y S2) fun r S3 => ∃ k, r = .bl k ∧ if k = true then We c l S3 fun z S4 => Wo (g y z S4) Q else Q (.bl false) S3 := by
  apply propext
  constructor
  · rintro ⟨v, S', h, q⟩
    obtain ⟨⟨x, S1⟩, h1, h⟩ := bnd h
    obtain ⟨⟨y, S2⟩, h2, h⟩ := bnd h
    obtain ⟨⟨r, S3⟩, h3, h⟩ := bnd h
    refine ⟨x, S1, h1, y, S2, h2, r, S3, h3, ?_⟩
    cases r with
    | bl k =>
      cases k with
      | true =>
        obtain ⟨⟨z, S4⟩, h4, h⟩ := bnd h
        exact ⟨true, rfl, z, S4, h4, v, S', h, q⟩
      | false => cases h; exact ⟨false, rfl, q⟩
    | _ => cases h
  · rintro ⟨x, S1, h1, y, S2, h2, r, S3, h3, k, rfl, h⟩
    cases k with
    | true =>
      obtain ⟨z, S4, h4, v, S', h, q⟩ := h
      refine ⟨v, S', ?_, q⟩
      unfold eChain; rw [h1]; show (b l S1).bind _ = _; rw [h2]; show (f x y S2).bind _ = _; rw [h3]; show (c l S3).bind _ = _; rw [h4]; exact h
    | false =>
      refine ⟨_, _, ?_, h⟩
      unfold eChain; rw [h1]; show (b l S1).bind _ = _; rw [h2]; show (f x y S2).bind _ = _; rw [h3]; rfl
theorem ii_int_bool : isI "int" "bool" = false := by decide
theorem below_ok {d n : Nat} (h : d < n) (S : Sto) : m_is_below [.int (d : Int), .int (n : Int)] S = some (.bl true, S) := by
  have : Wo (m_is_below [.int (d : Int), .int (n : Int)] S) fun v S' => v = .bl true ∧ S' = S := by
    unfold m_is_below b_is_below
    have h0 : (0 : Int) ≤ (d : Int) := by omega
    have h1 : (d : Int) < (n : Int) := by omega
    simp only [wo_run, ws_seq, ws_if, wt_e, we_op, we_un, we_var, we_c, ws_asg, ws_ret, ws_drop, ws_next, ws_break, ws_cont, wg_name, wg_sub, wg_tup, wg_nil, wg_cons, wg_dput, we_call, we_methL, we_methS, wa_cons, wa_nil, wt_and, wt_or, wt_not, we_and, we_or, we_not, we_if, wo_I0, wo_I, wo_plusAI, wo_plusAT, we_slA, wp_none, wp_some, ex_int1, wo_slT, wo_intAB, wo_times, wo_ixT, wo_ixL, wo_ixAT, wo_ixAL, wo_ixAS, wo_lenT, wo_lenL, wo_lenAT, wo_lenAL, wo_lenAS, wo_abs, wo_intB, wo_tup, wo_lst, wo_tupleL, wo_eqI, wo_eqB, wo_eqSt, wo_neS, wo_neB, wo_neI, wo_is, wo_isnot, wo_str, wo_isI_bl, wo_isI_int, wo_isI_str, wo_isI_tup, wo_isI_non, isI_same, List.map_cons, List.map_nil, List.length_cons, List.length_nil, Nat.reduceAdd, Nat.reduceSub, List.replicate, List.cons_append, List.nil_append, List.getElem?_cons_zero, List.getElem?_cons_succ, List.set_cons_zero, List.set_cons_succ, ex_some, ex_some1, ex_bl, ex_int, at3_0, at3_1, at3_2, at2_0, at2_1, lstOf_last, decide_eq_true_eq, wo_isI_int, isI_same, ii_int_bool, we_chain, h0, h1, decide_true, if_true, Bool.not_false]
    all_goals first | trivial | exact ⟨(by first | rfl | trivial), (by first | rfl | trivial)⟩
  obtain ⟨v, S', e, rfl, rfl⟩ := this
  exact e
theorem cell_true {m : Nat} {c : Cl} {S : Sto} (h : OkC m c) : m_is_cell [cD c, .int (m : Int)] S = some (.bl true, S) := by
  have h8 : ∀ k, c.2 = some k → m_is_below [.int (k : Int), .int 8] S = some (.bl true, S) := fun k e => below_ok (h.2 k e) S
  obtain ⟨g, s⟩ := c
  apply wo_eq
  unfold m_is_cell b_is_cell cD
  simp only [wo_run, List.map_cons, List.map_nil, List.length_cons, List.length_nil, Nat.reduceAdd, Nat.reduceSub, List.replicate, List.cons_append, List.nil_append]
  cases g with
  | none =>
    cases s with
    | none => simp only [wo_run, ws_seq, ws_if, wt_e, we_op, we_un, we_var, we_c, ws_asg, ws_ret, ws_drop, ws_next, ws_break, ws_cont, wg_name, wg_sub, wg_tup, wg_nil, wg_cons, wg_dput, we_call, we_methL, we_methS, wa_cons, wa_nil, wt_and, wt_or, wt_not, we_and, we_or, we_not, we_if, wo_I0, wo_I, wo_plusAI, wo_plusAT, we_slA, wp_none, wp_some, ex_int1, wo_slT, wo_intAB, wo_times, wo_ixT, wo_ixL, wo_ixAT, wo_ixAL, wo_ixAS, wo_lenT, wo_lenL, wo_lenAT, wo_lenAL, wo_lenAS, wo_abs, wo_intB, wo_tup, wo_lst, wo_tupleL, wo_eqI, wo_eqB, wo_eqSt, wo_neS, wo_neB, wo_neI, wo_is, wo_isnot, wo_str, wo_isI_bl, wo_isI_int, wo_isI_str, wo_isI_tup, wo_isI_non, isI_same, List.map_cons, List.map_nil, List.length_cons, List.length_nil, Nat.reduceAdd, Nat.reduceSub, List.replicate, List.cons_append, List.nil_append, List.getElem?_cons_zero, List.getElem?_cons_succ, List.set_cons_zero, List.set_cons_succ, ex_some, ex_some1, ex_bl, ex_int, at3_0, at3_1, at3_2, at2_0, at2_1, lstOf_last, decide_eq_true_eq, oD, isNon, Int.cast_ofNat_Int, Bool.not_true, decide_true, Bool.false_eq_true, if_false, if_true, and_self]
    | some k => simp only [wo_run, ws_seq, ws_if, wt_e, we_op, we_un, we_var, we_c, ws_asg, ws_ret, ws_drop, ws_next, ws_break, ws_cont, wg_name, wg_sub, wg_tup, wg_nil, wg_cons, wg_dput, we_call, we_methL, we_methS, wa_cons, wa_nil, wt_and, wt_or, wt_not, we_and, we_or, we_not, we_if, wo_I0, wo_I, wo_plusAI, wo_plusAT, we_slA, wp_none, wp_some, ex_int1, wo_slT, wo_intAB, wo_times, wo_ixT, wo_ixL, wo_ixAT, wo_ixAL, wo_ixAS, wo_lenT, wo_lenL, wo_lenAT, wo_lenAL, wo_lenAS, wo_abs, wo_intB, wo_tup, wo_lst, wo_tupleL, wo_eqI, wo_eqB, wo_eqSt, wo_neS, wo_neB, wo_neI, wo_is, wo_isnot, wo_str, wo_isI_bl, wo_isI_int, wo_isI_str, wo_isI_tup, wo_isI_non, isI_same, List.map_cons, List.map_nil, List.length_cons, List.length_nil, Nat.reduceAdd, Nat.reduceSub, List.replicate, List.cons_append, List.nil_append, List.getElem?_cons_zero, List.getElem?_cons_succ, List.set_cons_zero, List.set_cons_succ, ex_some, ex_some1, ex_bl, ex_int, at3_0, at3_1, at3_2, at2_0, at2_1, lstOf_last, decide_eq_true_eq, oD, isNon, Int.cast_ofNat_Int, Bool.not_true, decide_true, Bool.false_eq_true, if_false, if_true, h8 k rfl, wo_some, and_self]
  | some j =>
    have hj : m_is_below [.int (j : Int), .int (m : Int)] S = some (.bl true, S) := below_ok (h.1 j rfl) S
    cases s with
    | none => simp only [wo_run, ws_seq, ws_if, wt_e, we_op, we_un, we_var, we_c, ws_asg, ws_ret, ws_drop, ws_next, ws_break, ws_cont, wg_name, wg_sub, wg_tup, wg_nil, wg_cons, wg_dput, we_call, we_methL, we_methS, wa_cons, wa_nil, wt_and, wt_or, wt_not, we_and, we_or, we_not, we_if, wo_I0, wo_I, wo_plusAI, wo_plusAT, we_slA, wp_none, wp_some, ex_int1, wo_slT, wo_intAB, wo_times, wo_ixT, wo_ixL, wo_ixAT, wo_ixAL, wo_ixAS, wo_lenT, wo_lenL, wo_lenAT, wo_lenAL, wo_lenAS, wo_abs, wo_intB, wo_tup, wo_lst, wo_tupleL, wo_eqI, wo_eqB, wo_eqSt, wo_neS, wo_neB, wo_neI, wo_is, wo_isnot, wo_str, wo_isI_bl, wo_isI_int, wo_isI_str, wo_isI_tup, wo_isI_non, isI_same, List.map_cons, List.map_nil, List.length_cons, List.length_nil, Nat.reduceAdd, Nat.reduceSub, List.replicate, List.cons_append, List.nil_append, List.getElem?_cons_zero, List.getElem?_cons_succ, List.set_cons_zero, List.set_cons_succ, ex_some, ex_some1, ex_bl, ex_int, at3_0, at3_1, at3_2, at2_0, at2_1, lstOf_last, decide_eq_true_eq, oD, isNon, Int.cast_ofNat_Int, Bool.not_true, decide_true, Bool.false_eq_true, if_false, if_true, hj, wo_some, and_self]
    | some k => simp only [wo_run, ws_seq, ws_if, wt_e, we_op, we_un, we_var, we_c, ws_asg, ws_ret, ws_drop, ws_next, ws_break, ws_cont, wg_name, wg_sub, wg_tup, wg_nil, wg_cons, wg_dput, we_call, we_methL, we_methS, wa_cons, wa_nil, wt_and, wt_or, wt_not, we_and, we_or, we_not, we_if, wo_I0, wo_I, wo_plusAI, wo_plusAT, we_slA, wp_none, wp_some, ex_int1, wo_slT, wo_intAB, wo_times, wo_ixT, wo_ixL, wo_ixAT, wo_ixAL, wo_ixAS, wo_lenT, wo_lenL, wo_lenAT, wo_lenAL, wo_lenAS, wo_abs, wo_intB, wo_tup, wo_lst, wo_tupleL, wo_eqI, wo_eqB, wo_eqSt, wo_neS, wo_neB, wo_neI, wo_is, wo_isnot, wo_str, wo_isI_bl, wo_isI_int, wo_isI_str, wo_isI_tup, wo_isI_non, isI_same, List.map_cons, List.map_nil, List.length_cons, List.length_nil, Nat.reduceAdd, Nat.reduceSub, List.replicate, List.cons_append, List.nil_append, List.getElem?_cons_zero, List.getElem?_cons_succ, List.set_cons_zero, List.set_cons_succ, ex_some, ex_some1, ex_bl, ex_int, at3_0, at3_1, at3_2, at2_0, at2_1, lstOf_last, decide_eq_true_eq, oD, isNon, Int.cast_ofNat_Int, Bool.not_true, decide_true, Bool.false_eq_true, if_false, if_true, hj, h8 k rfl, wo_some, and_self]
theorem all_true {α : Type} (xs : List α) : (xs.map fun _ => D.bl true).all isBlD = true ∧ (xs.map fun _ => D.bl true).all isT = true := by
  constructor <;> (rw [List.all_map, List.all_eq_true]; intro x _; rfl)
theorem room_true {m asks : Nat} {cs : List Cl} {S : Sto} (h : OkR m asks cs) (ha : asks ≤ 4) : Wo (m_is_room [rD cs, .int (asks : Int), .int (m : Int)] S) fun v S' => v = .bl true ∧ Gr S S' := by
  unfold m_is_room b_is_room
  simp only [wo_run, List.map_cons, List.map_nil, List.length_cons, List.length_nil, Nat.reduceAdd, Nat.reduceSub, List.replicate, List.cons_append, List.nil_append]
  refine ws_cut (fun l S' => S' = S ∧ l = [some (rD cs), some (.int (asks : Int)), some (.int (m : Int))]) ?_ ?_
  · simp only [wo_run, ws_seq, ws_if, wt_e, we_op, we_un, we_var, we_c, ws_asg, ws_ret, ws_drop, ws_next, ws_break, ws_cont, wg_name, wg_sub, wg_tup, wg_nil, wg_cons, wg_dput, we_call, we_methL, we_methS, wa_cons, wa_nil, wt_and, wt_or, wt_not, we_and, we_or, we_not, we_if, wo_I0, wo_I, wo_plusAI, wo_plusAT, we_slA, wp_none, wp_some, ex_int1, wo_slT, wo_intAB, wo_times, wo_ixT, wo_ixL, wo_ixAT, wo_ixAL, wo_ixAS, wo_lenT, wo_lenL, wo_lenAT, wo_lenAL, wo_lenAS, wo_abs, wo_intB, wo_tup, wo_lst, wo_tupleL, wo_eqI, wo_eqB, wo_eqSt, wo_neS, wo_neB, wo_neI, wo_is, wo_isnot, wo_str, wo_isI_bl, wo_isI_int, wo_isI_str, wo_isI_tup, wo_isI_non, isI_same, List.map_cons, List.map_nil, List.length_cons, List.length_nil, Nat.reduceAdd, Nat.reduceSub, List.replicate, List.cons_append, List.nil_append, List.getElem?_cons_zero, List.getElem?_cons_succ, List.set_cons_zero, List.set_cons_succ, ex_some, ex_some1, ex_bl, ex_int, at3_0, at3_1, at3_2, at2_0, at2_1, lstOf_last, decide_eq_true_eq, rD, List.length_map, h.1, Int.cast_ofNat_Int, Bool.not_true, decide_true, Bool.false_eq_true, if_false, and_self]
  rintro l S1 ⟨rfl, rfl⟩
  rw [ws_ret, we_call, wa_cons]
  refine we_compA cs cD (fun _ => .bl true) (fun S' => S' = S1) (fun l => ∃ y, l = [y, some (.int (m : Int))]) (valT_im rfl) rfl ⟨_, rfl⟩ (fun i S _ => rfl) (big_ok (by rw [h.1]; omega)) ?_ ?_
  · rintro c l S' hc ⟨y, rfl⟩ rfl
    simp only [wg_name, List.set_cons_zero]
    refine ⟨⟨_, rfl⟩, ?_⟩
    simp only [we_call, wa_cons, wa_nil, we_var, List.getElem?_cons_zero, List.getElem?_cons_succ, ex_some, cell_true (h.2 c hc), wo_some, and_self]
  · rintro S' rfl
    simp only [wa_nil, wo_allL, lstOf_last, ex_some1, all_true, true_and]
    exact ⟨_, rfl⟩
theorem machine_true {asks : Nat} {rs : List (List Cl)} {S : Sto} (h : OkM asks rs) : Wo (m_is_machine [mD asks rs] S) fun v S' => v = .bl true ∧ Gr S S' := by
  have a1 := h.a1
  have a4 := h.a4
  have r1 := h.r1
  have r24 := h.r24
  have hb : m_is_below [.int (asks : Int), .int 5] S = some (.bl true, S) := below_ok (n := 5) (by omega) S
  have e0 : ¬ (asks : Int) = 0 := by omega
  have c1 : (1 : Int) ≤ (rs.length : Int) := by omega
  have c2 : (rs.length : Int) ≤ 24 := by omega
  unfold m_is_machine b_is_machine mD
  simp only [wo_run, List.map_cons, List.map_nil, List.length_cons, List.length_nil, Nat.reduceAdd, Nat.reduceSub, List.replicate, List.cons_append, List.nil_append]
  refine ws_cut (fun l S' => S' = S ∧ l = [some (mD asks rs), none, none]) ?_ ?_
  · simp only [wo_run, ws_seq, ws_if, wt_e, we_op, we_un, we_var, we_c, ws_asg, ws_ret, ws_drop, ws_next, ws_break, ws_cont, wg_name, wg_sub, wg_tup, wg_nil, wg_cons, wg_dput, we_call, we_methL, we_methS, wa_cons, wa_nil, wt_and, wt_or, wt_not, we_and, we_or, we_not, we_if, wo_I0, wo_I, wo_plusAI, wo_plusAT, we_slA, wp_none, wp_some, ex_int1, wo_slT, wo_intAB, wo_times, wo_ixT, wo_ixL, wo_ixAT, wo_ixAL, wo_ixAS, wo_lenT, wo_lenL, wo_lenAT, wo_lenAL, wo_lenAS, wo_abs, wo_intB, wo_tup, wo_lst, wo_tupleL, wo_eqI, wo_eqB, wo_eqSt, wo_neS, wo_neB, wo_neI, wo_is, wo_isnot, wo_str, wo_isI_bl, wo_isI_int, wo_isI_str, wo_isI_tup, wo_isI_non, isI_same, List.map_cons, List.map_nil, List.length_cons, List.length_nil, Nat.reduceAdd, Nat.reduceSub, List.replicate, List.cons_append, List.nil_append, List.getElem?_cons_zero, List.getElem?_cons_succ, List.set_cons_zero, List.set_cons_succ, ex_some, ex_some1, ex_bl, ex_int, at3_0, at3_1, at3_2, at2_0, at2_1, lstOf_last, decide_eq_true_eq, mD, Int.cast_ofNat_Int, Bool.not_true, decide_true, Bool.false_eq_true, if_false, and_self]
  rintro l S1 ⟨rfl, rfl⟩
  refine ws_cut (fun l S' => S' = S1 ∧ l = [some (mD asks rs), some (.int (asks : Int)), some (.tup (rs.map rD))]) ?_ ?_
  · simp only [wo_run, ws_seq, ws_if, wt_e, we_op, we_un, we_var, we_c, ws_asg, ws_ret, ws_drop, ws_next, ws_break, ws_cont, wg_name, wg_sub, wg_tup, wg_nil, wg_cons, wg_dput, we_call, we_methL, we_methS, wa_cons, wa_nil, wt_and, wt_or, wt_not, we_and, we_or, we_not, we_if, wo_I0, wo_I, wo_plusAI, wo_plusAT, we_slA, wp_none, wp_some, ex_int1, wo_slT, wo_intAB, wo_times, wo_ixT, wo_ixL, wo_ixAT, wo_ixAL, wo_ixAS, wo_lenT, wo_lenL, wo_lenAT, wo_lenAL, wo_lenAS, wo_abs, wo_intB, wo_tup, wo_lst, wo_tupleL, wo_eqI, wo_eqB, wo_eqSt, wo_neS, wo_neB, wo_neI, wo_is, wo_isnot, wo_str, wo_isI_bl, wo_isI_int, wo_isI_str, wo_isI_tup, wo_isI_non, isI_same, List.map_cons, List.map_nil, List.length_cons, List.length_nil, Nat.reduceAdd, Nat.reduceSub, List.replicate, List.cons_append, List.nil_append, List.getElem?_cons_zero, List.getElem?_cons_succ, List.set_cons_zero, List.set_cons_succ, ex_some, ex_some1, ex_bl, ex_int, at3_0, at3_1, at3_2, at2_0, at2_1, lstOf_last, decide_eq_true_eq, mD, and_self]
  rintro l S2 ⟨rfl, rfl⟩
  refine ws_cut (fun l S' => S' = S2 ∧ l = [some (mD asks rs), some (.int (asks : Int)), some (.tup (rs.map rD))]) ?_ ?_
  · simp only [wo_run, ws_seq, ws_if, wt_e, we_op, we_un, we_var, we_c, ws_asg, ws_ret, ws_drop, ws_next, ws_break, ws_cont, wg_name, wg_sub, wg_tup, wg_nil, wg_cons, wg_dput, we_call, we_methL, we_methS, wa_cons, wa_nil, wt_and, wt_or, wt_not, we_and, we_or, we_not, we_if, wo_I0, wo_I, wo_plusAI, wo_plusAT, we_slA, wp_none, wp_some, ex_int1, wo_slT, wo_intAB, wo_times, wo_ixT, wo_ixL, wo_ixAT, wo_ixAL, wo_ixAS, wo_lenT, wo_lenL, wo_lenAT, wo_lenAL, wo_lenAS, wo_abs, wo_intB, wo_tup, wo_lst, wo_tupleL, wo_eqI, wo_eqB, wo_eqSt, wo_neS, wo_neB, wo_neI, wo_is, wo_isnot, wo_str, wo_isI_bl, wo_isI_int, wo_isI_str, wo_isI_tup, wo_isI_non, isI_same, List.map_cons, List.map_nil, List.length_cons, List.length_nil, Nat.reduceAdd, Nat.reduceSub, List.replicate, List.cons_append, List.nil_append, List.getElem?_cons_zero, List.getElem?_cons_succ, List.set_cons_zero, List.set_cons_succ, ex_some, ex_some1, ex_bl, ex_int, at3_0, at3_1, at3_2, at2_0, at2_1, lstOf_last, decide_eq_true_eq, Int.reduceAdd, hb, wo_some, Bool.not_true, e0, decide_false, Bool.false_eq_true, if_false, and_self]
  rintro l S3 ⟨rfl, rfl⟩
  refine ws_cut (fun l S' => S' = S3 ∧ l = [some (mD asks rs), some (.int (asks : Int)), some (.tup (rs.map rD))]) ?_ ?_
  · simp only [wo_run, ws_seq, ws_if, wt_e, we_op, we_un, we_var, we_c, ws_asg, ws_ret, ws_drop, ws_next, ws_break, ws_cont, wg_name, wg_sub, wg_tup, wg_nil, wg_cons, wg_dput, we_call, we_methL, we_methS, wa_cons, wa_nil, wt_and, wt_or, wt_not, we_and, we_or, we_not, we_if, wo_I0, wo_I, wo_plusAI, wo_plusAT, we_slA, wp_none, wp_some, ex_int1, wo_slT, wo_intAB, wo_times, wo_ixT, wo_ixL, wo_ixAT, wo_ixAL, wo_ixAS, wo_lenT, wo_lenL, wo_lenAT, wo_lenAL, wo_lenAS, wo_abs, wo_intB, wo_tup, wo_lst, wo_tupleL, wo_eqI, wo_eqB, wo_eqSt, wo_neS, wo_neB, wo_neI, wo_is, wo_isnot, wo_str, wo_isI_bl, wo_isI_int, wo_isI_str, wo_isI_tup, wo_isI_non, isI_same, List.map_cons, List.map_nil, List.length_cons, List.length_nil, Nat.reduceAdd, Nat.reduceSub, List.replicate, List.cons_append, List.nil_append, List.getElem?_cons_zero, List.getElem?_cons_succ, List.set_cons_zero, List.set_cons_succ, ex_some, ex_some1, ex_bl, ex_int, at3_0, at3_1, at3_2, at2_0, at2_1, lstOf_last, decide_eq_true_eq, we_chain, List.length_map, c1, c2, Int.cast_ofNat_Int, Bool.not_true, decide_true, Bool.false_eq_true, if_false, if_true, and_self]
  rintro l S4 ⟨rfl, rfl⟩
  rw [ws_ret, we_call, wa_cons]
  refine we_compA rs rD (fun _ => .bl true) (fun S' => Gr S4 S') (fun l => ∃ y, l = [y, some (.int (asks : Int)), some (.tup (rs.map rD))]) (valT_im rfl) (Gr.refl _) ⟨_, rfl⟩ (fun i S _ => rfl) (big_ok (by omega)) ?_ ?_
  · rintro cs l S' hc ⟨y, rfl⟩ g
    simp only [wg_name, List.set_cons_zero]
    refine ⟨⟨_, rfl⟩, ?_⟩
    simp only [we_call, wa_cons, wa_nil, we_var, List.getElem?_cons_zero, List.getElem?_cons_succ, ex_some, wo_lenAT, List.length_map]
    refine (room_true (h.ok cs hc) a4).mono ?_
    rintro v S5 ⟨rfl, g5⟩
    exact ⟨rfl, g.trans g5⟩
  · intro S' g
    simp only [wa_nil, wo_allL, lstOf_last, ex_some1, all_true, true_and]
    exact g.push _
end M
namespace M
open PySem L3 G
theorem blank_len : (" " : Str).length ≠ 0 := by decide +kernel
theorem bar_len : (" | " : Str).length ≠ 0 := by decide +kernel
theorem split_ev {e : EM} {l : Lo} {S S1 : Sto} {x y : Str} (he : e l S = some (.str x, S1)) (hy : y.length ≠ 0) (hx : x.length + 2 ≤ sizeLine) : eMethS mSplit e (aCons (eC (.str y)) aNil) l S = some (.ref S1.length, S1 ++ [.lst ((Txt.split x y).map D.str)]) := by
  unfold eMethS
  rw [he]
  show (if y.length ≠ 0 ∧ x.length + 2 ≤ sizeLine then _ else none) = _
  rw [if_pos ⟨hy, hx⟩]
theorem read_room_ok {m asks : Nat} {cs : List Cl} {S : Sto} (h : OkR m asks cs) (hm : m ≤ 24) (h1 : 1 ≤ asks) (ha : asks ≤ 4) :
    We (eCall fTuple (aCons (eComp (iVal (eMethS mSplit (eVar 0) (aCons (eC (.str " ")) aNil))) [none] (gName3 0) (tTrue) (eCall m_read_cell (aCons (eVar 0) (aNil)))) (aNil))) [some (.str (rt cs))] S fun v S' => v = rD cs ∧ Gr S S' := by
  have hl := rt_len h hm ha
  have e0 : eMethS mSplit (eVar 0) (aCons (eC (.str " ")) aNil) [some (.str (rt cs))] S = some (.ref S.length, S ++ [.lst (cs.map fun c => .str (ct c))]) := by
    rw [split_ev (x := rt cs) (S1 := S) rfl blank_len (big_ok (by omega)), room_split h hm h1, ← map_txt ct]
  rw [we_call, wa_cons]
  refine we_compA cs (fun c => .str (ct c)) cD (fun S' => Gr (S ++ [.lst (cs.map fun c => .str (ct c))]) S') (fun l => ∃ y, l = [y]) (valL_im e0 lstOf_last) (Gr.refl _) ⟨_, rfl⟩ (fun i S g => itL_at (g.lst lstOf_last)) (big_ok (by rw [h.1]; omega)) ?_ ?_
  · rintro c l S' hc ⟨y, rfl⟩ g
    simp only [wg_name, List.set_cons_zero]
    refine ⟨⟨_, rfl⟩, ?_⟩
    simp only [we_call, wa_cons, wa_nil, we_var, List.getElem?_cons_zero, ex_some]
    refine (read_cell_ok (h.2 c hc) hm).mono ?_
    rintro v S2 ⟨rfl, g2⟩
    exact ⟨rfl, g.trans g2⟩
  · intro S' g
    simp only [wa_nil, wo_tupleL, lstOf_last, ex_some1]
    exact ⟨rfl, ((Gr.refl S).push _).trans (g.push _)⟩
theorem read_machine_ok {asks : Nat} {rs : List (List Cl)} {S : Sto} (h : OkM asks rs) : Wo (m_read_machine [.str (mt asks rs)] S) fun v S' => v = mD asks rs ∧ Gr S S' := by
  have a1 := h.a1
  have a4 := h.a4
  have r24 := h.r24
  have l1 := mt_len h
  have l2 := jt_len h
  have sz2 : 2 ≤ sizeLine := by decide
  have z0 : (": " : Str).length ≠ 0 := by rw [sep_len]; decide
  have z1 : (mt asks rs).length ≤ sizeLine := big_ok (by omega)
  have rn : ∀ S, m_read_number [.str (nt asks), .int 5] S = some (.int (asks : Int), S) := fun S => read_number_eq (n := 5) (by omega) (by decide)
  unfold m_read_machine b_read_machine
  simp only [wo_run, List.map_cons, List.map_nil, List.length_cons, List.length_nil, Nat.reduceAdd, Nat.reduceSub, List.replicate, List.cons_append, List.nil_append]
  refine ws_cut (fun l S' => S' = S ∧ l = [some (.str (mt asks rs)), none, none, none, none, none, none]) ?_ ?_
  · simp only [wo_run, ws_seq, ws_if, wt_e, we_op, we_un, we_var, we_c, ws_asg, ws_ret, ws_drop, ws_next, ws_break, ws_cont, wg_name, wg_sub, wg_tup, wg_nil, wg_cons, wg_dput, we_call, we_methL, we_methS, wa_cons, wa_nil, wt_and, wt_or, wt_not, we_and, we_or, we_not, we_if, wo_I0, wo_I, wo_plusAI, wo_plusAT, we_slA, wp_none, wp_some, ex_int1, wo_slT, wo_intAB, wo_times, wo_ixT, wo_ixL, wo_ixAT, wo_ixAL, wo_ixAS, wo_lenT, wo_lenL, wo_lenAT, wo_lenAL, wo_lenAS, wo_abs, wo_intB, wo_tup, wo_lst, wo_tupleL, wo_eqI, wo_eqB, wo_eqSt, wo_neS, wo_neB, wo_neI, wo_is, wo_isnot, wo_str, wo_isI_bl, wo_isI_int, wo_isI_str, wo_isI_tup, wo_isI_non, isI_same, List.map_cons, List.map_nil, List.length_cons, List.length_nil, Nat.reduceAdd, Nat.reduceSub, List.replicate, List.cons_append, List.nil_append, List.getElem?_cons_zero, List.getElem?_cons_succ, List.set_cons_zero, List.set_cons_succ, ex_some, ex_some1, ex_bl, ex_int, at3_0, at3_1, at3_2, at2_0, at2_1, lstOf_last, decide_eq_true_eq, refuse_eq, wo_some, and_self]
  rintro l S1 ⟨rfl, rfl⟩
  refine ws_cut (fun l S' => S' = S1 ∧ l = [some (.str (mt asks rs)), some (.str (nt asks)), some (.str ": "), some (.str (Str.join " | " (rs.map rt))), none, none, none]) ?_ ?_
  · simp only [wo_run, ws_seq, ws_if, wt_e, we_op, we_un, we_var, we_c, ws_asg, ws_ret, ws_drop, ws_next, ws_break, ws_cont, wg_name, wg_sub, wg_tup, wg_nil, wg_cons, wg_dput, we_call, we_methL, we_methS, wa_cons, wa_nil, wt_and, wt_or, wt_not, we_and, we_or, we_not, we_if, wo_I0, wo_I, wo_plusAI, wo_plusAT, we_slA, wp_none, wp_some, ex_int1, wo_slT, wo_intAB, wo_times, wo_ixT, wo_ixL, wo_ixAT, wo_ixAL, wo_ixAS, wo_lenT, wo_lenL, wo_lenAT, wo_lenAL, wo_lenAS, wo_abs, wo_intB, wo_tup, wo_lst, wo_tupleL, wo_eqI, wo_eqB, wo_eqSt, wo_neS, wo_neB, wo_neI, wo_is, wo_isnot, wo_str, wo_isI_bl, wo_isI_int, wo_isI_str, wo_isI_tup, wo_isI_non, isI_same, List.map_cons, List.map_nil, List.length_cons, List.length_nil, Nat.reduceAdd, Nat.reduceSub, List.replicate, List.cons_append, List.nil_append, List.getElem?_cons_zero, List.getElem?_cons_succ, List.set_cons_zero, List.set_cons_succ, ex_some, ex_some1, ex_bl, ex_int, at3_0, at3_1, at3_2, at2_0, at2_1, lstOf_last, decide_eq_true_eq, recvS, wo_partn, head_part h, ne_eq, z0, not_false_eq_true, z1, true_and, and_self]
  rintro l S2 ⟨rfl, rfl⟩
  refine ws_cut (fun l S' => S' = S2 ∧ l = [some (.str (mt asks rs)), some (.str (nt asks)), some (.str ": "), some (.str (Str.join " | " (rs.map rt))), some (.int (asks : Int)), none, none]) ?_ ?_
  · simp only [wo_run, ws_seq, ws_if, wt_e, we_op, we_un, we_var, we_c, ws_asg, ws_ret, ws_drop, ws_next, ws_break, ws_cont, wg_name, wg_sub, wg_tup, wg_nil, wg_cons, wg_dput, we_call, we_methL, we_methS, wa_cons, wa_nil, wt_and, wt_or, wt_not, we_and, we_or, we_not, we_if, wo_I0, wo_I, wo_plusAI, wo_plusAT, we_slA, wp_none, wp_some, ex_int1, wo_slT, wo_intAB, wo_times, wo_ixT, wo_ixL, wo_ixAT, wo_ixAL, wo_ixAS, wo_lenT, wo_lenL, wo_lenAT, wo_lenAL, wo_lenAS, wo_abs, wo_intB, wo_tup, wo_lst, wo_tupleL, wo_eqI, wo_eqB, wo_eqSt, wo_neS, wo_neB, wo_neI, wo_is, wo_isnot, wo_str, wo_isI_bl, wo_isI_int, wo_isI_str, wo_isI_tup, wo_isI_non, isI_same, List.map_cons, List.map_nil, List.length_cons, List.length_nil, Nat.reduceAdd, Nat.reduceSub, List.replicate, List.cons_append, List.nil_append, List.getElem?_cons_zero, List.getElem?_cons_succ, List.set_cons_zero, List.set_cons_succ, ex_some, ex_some1, ex_bl, ex_int, at3_0, at3_1, at3_2, at2_0, at2_1, lstOf_last, decide_eq_true_eq, Int.reduceAdd, rn, wo_some, and_self]
  rintro l S3 ⟨rfl, rfl⟩
  refine ws_cut (fun l S' => Gr S3 S' ∧ ∃ n, lstOf S' n = some (rs.map rD) ∧ l = [some (.str (mt asks rs)), some (.str (nt asks)), some (.str ": "), some (.str (Str.join " | " (rs.map rt))), some (.int (asks : Int)), some (.ref n), none]) ?_ ?_
  · have e0 : eMethS mSplit (eVar 3) (aCons (eC (.str " | ")) aNil) [some (.str (mt asks rs)), some (.str (nt asks)), some (.str ": "), some (.str (Str.join " | " (rs.map rt))), some (.int (asks : Int)), none, none] S3 = some (.ref S3.length, S3 ++ [.lst (rs.map fun cs => .str (rt cs))]) := by
      rw [split_ev (x := Str.join " | " (rs.map rt)) (S1 := S3) rfl bar_len (big_ok (by omega)), rooms_split h, ← map_txt rt]
    rw [ws_asg]
    refine we_compA rs (fun cs => .str (rt cs)) rD (fun S' => Gr (S3 ++ [.lst (rs.map fun cs => .str (rt cs))]) S') (fun l => ∃ y, l = [y]) (valL_im e0 lstOf_last) (Gr.refl _) ⟨_, rfl⟩ (fun i S g => itL_at (g.lst lstOf_last)) (big_ok (by omega)) ?_ ?_
    · rintro cs l S' hc ⟨y, rfl⟩ g
      simp only [wg_name, List.set_cons_zero]
      refine ⟨⟨_, rfl⟩, ?_⟩
      refine Wo.mono (read_room_ok (h.ok cs hc) r24 a1 a4) ?_
      rintro v S2 ⟨rfl, g2⟩
      exact ⟨rfl, g.trans g2⟩
    · intro S' g
      simp only [wg_name, List.set_cons_zero, List.set_cons_succ]
      first | exact ⟨(by first | rfl | trivial), ((Gr.refl S3).push _).trans (g.push _), _, lstOf_last, rfl⟩ | exact ⟨((Gr.refl S3).push _).trans (g.push _), _, lstOf_last, rfl⟩
  rintro l S4 ⟨g4, n, hn, rfl⟩
  refine ws_cut (fun l S' => S' = S4 ∧ l = [some (.str (mt asks rs)), some (.str (nt asks)), some (.str ": "), some (.str (Str.join " | " (rs.map rt))), some (.int (asks : Int)), some (.ref n), some (mD asks rs)]) ?_ ?_
  · simp only [wo_run, ws_seq, ws_if, wt_e, we_op, we_un, we_var, we_c, ws_asg, ws_ret, ws_drop, ws_next, ws_break, ws_cont, wg_name, wg_sub, wg_tup, wg_nil, wg_cons, wg_dput, we_call, we_methL, we_methS, wa_cons, wa_nil, wt_and, wt_or, wt_not, we_and, we_or, we_not, we_if, wo_I0, wo_I, wo_plusAI, wo_plusAT, we_slA, wp_none, wp_some, ex_int1, wo_slT, wo_intAB, wo_times, wo_ixT, wo_ixL, wo_ixAT, wo_ixAL, wo_ixAS, wo_lenT, wo_lenL, wo_lenAT, wo_lenAL, wo_lenAS, wo_abs, wo_intB, wo_tup, wo_lst, wo_tupleL, wo_eqI, wo_eqB, wo_eqSt, wo_neS, wo_neB, wo_neI, wo_is, wo_isnot, wo_str, wo_isI_bl, wo_isI_int, wo_isI_str, wo_isI_tup, wo_isI_non, isI_same, List.map_cons, List.map_nil, List.length_cons, List.length_nil, Nat.reduceAdd, Nat.reduceSub, List.replicate, List.cons_append, List.nil_append, List.getElem?_cons_zero, List.getElem?_cons_succ, List.set_cons_zero, List.set_cons_succ, ex_some, ex_some1, ex_bl, ex_int, at3_0, at3_1, at3_2, at2_0, at2_1, lstOf_last, decide_eq_true_eq, hn, sz2, mD, true_and, and_self]
  rintro l S5 ⟨rfl, rfl⟩
  rw [ws_seq, ws_if]
  simp only [wt_not, wt_e, we_call, wa_cons, wa_nil, we_var, List.getElem?_cons_zero, List.getElem?_cons_succ, ex_some]
  refine (machine_true h).mono ?_
  rintro v S6 ⟨rfl, g6⟩
  simp only [ex_bl, Bool.not_true, Bool.false_eq_true, if_false, ws_next, ws_ret, we_var, List.getElem?_cons_zero, List.getElem?_cons_succ, ex_some]
  first | exact ⟨(by first | rfl | trivial), g4.trans g6⟩ | exact g4.trans g6
end M
namespace M
open PySem L3 G
theorem wo_eqD {S : Sto} {x y : D} {p q : PyData} {Q : D → Sto → Prop} (h1 : pyOf S 60 x = some p) (h2 : pyOf S 60 y = some q) (c1 : p.canLay0 = true) (c2 : q.canLay0 = true) : Wo (dEqD x y S) Q = Q (.bl (p.eqv q)) S := by
  have : dEqD x y S = some (.bl (p.eqv q), S) := by unfold dEqD; rw [h1]; show (pyOf S 60 y).bind _ = _; rw [h2]; show (if _ then _ else _) = _; rw [if_pos ⟨c1, c2⟩]
  rw [this]; exact wo_some
noncomputable def wD (as : List Nat) : D := .tup (as.map fun a => .int ((a : Nat) : Int))
structure OkW (asks : Nat) (as : List Nat) : Prop where
  len : as.length ≤ 300
  ok : ∀ a ∈ as, a < asks
  a4 : asks ≤ 4
noncomputable def wt (as : List Nat) : Str := Str.join "" (as.map nt)
noncomputable def wtx (as : List Nat) : Str := if as = [] then "-" else wt as
theorem ints_py {S : Sto} {k : Nat} : ∀ (as : List Nat), (∀ a ∈ as, a < 1000) → pyAll S (k + 1) (as.map fun a => .int ((a : Nat) : Int)) = some (as.map fun a => .int ((a : Nat) : Int))
  | [], _ => by simp [pyAll]
  | a :: as, h => by
    have h1 := small_log2 (n := a) (Nat.lt_trans (h a List.mem_cons_self) (by decide))
    rw [List.map_cons, List.map_cons]
    unfold pyAll
    have e : pyOf S (k + 1) (.int ((a : Nat) : Int)) = some (.int ((a : Nat) : Int)) := by unfold pyOf; rw [if_pos h1]
    rw [e, ints_py as fun b hb => h b (List.mem_cons_of_mem _ hb)]; rfl
theorem ints_lay : ∀ (as : List Nat), PyData.canLayAll0 (as.map fun a => .int ((a : Nat) : Int)) = true
  | [] => by simp [PyData.canLayAll0]
  | a :: as => by
    rw [List.map_cons]
    simp only [PyData.canLayAll0, PyData.canLay0, ints_lay as, Bool.and_self]
theorem row_py {S : Sto} {as : List Nat} (h : ∀ a ∈ as, a < 1000) : pyOf S 60 (wD as) = some (.tuple (as.map fun a => .int ((a : Nat) : Int))) := by
  unfold wD pyOf
  rw [ints_py as h]; rfl
theorem row_lay (as : List Nat) : (PyData.tuple (as.map fun a => .int ((a : Nat) : Int))).canLay0 = true := by
  unfold PyData.canLay0; exact ints_lay as
theorem wt_sum {asks : Nat} {as : List Nat} (h : OkW asks as) : ((as.map nt).map (·.length)).sum + (as.map nt).length * ("" : Str).length ≤ 700 := by
  have h1 := sum_lens (B := 2) (as.map nt) fun t ht => by
    obtain ⟨a, ha, rfl⟩ := List.mem_map.mp ht
    exact nt_len (by have := h.ok a ha; have := h.a4; omega)
  have e : ("" : Str).length = 0 := by decide +kernel
  have := h.len
  rw [List.length_map] at h1
  rw [e]; omega
theorem wt_len {asks : Nat} {as : List Nat} (h : OkW asks as) : (wt as).length ≤ 700 := Nat.le_trans (StrLaws.join_length_le _ _) (wt_sum h)
theorem wt_cps {asks : Nat} : ∀ {as : List Nat}, (∀ a ∈ as, a < asks) → asks ≤ 4 → (wt as).cps.toList = as.map (48 + ·)
  | [], _, _ => by decide +kernel
  | [a], h, h4 => by
    show (nt a).cps.toList = _
    rw [nt_one ⟨a, by have := h a List.mem_cons_self; omega⟩]; rfl
  | a :: b :: r, h, h4 => by
    show (Str.join "" (nt a :: nt b :: r.map nt)).cps.toList = _
    rw [TX.join_cons, nt_one ⟨a, by have := h a List.mem_cons_self; omega⟩]
    have ih := wt_cps (as := b :: r) (fun c hc => h c (List.mem_cons_of_mem _ hc)) h4
    have ih : (Str.join "" (nt b :: r.map nt)).cps.toList = (b :: r).map (48 + ·) := ih
    rw [ih]
    have e : ("" : Str).cps.toList = [] := by decide +kernel
    rw [e]; rfl
theorem wt_sgn {asks : Nat} {as : List Nat} (h : OkW asks as) : sgn (wt as) = as.map fun a => .str (nt a) := by
  unfold sgn
  rw [wt_cps h.ok h.a4, List.map_map]
  refine List.map_congr_left fun a ha => ?_
  have := h.ok a ha
  have := h.a4
  rw [nt_one ⟨a, by omega⟩]; rfl
theorem wt_not {asks : Nat} {as : List Nat} (h : OkW asks as) (hn : as ≠ []) : ¬ wt as = "-" ∧ ¬ wt as = "" ∧ (wt as).length ≠ 0 := by
  have e := wt_cps h.ok h.a4
  obtain ⟨a, r, rfl⟩ := List.exists_cons_of_ne_nil hn
  refine ⟨fun z => ?_, fun z => ?_, fun z => ?_⟩
  · rw [z] at e
    have e2 : ("-" : Str).cps.toList = [45] := by decide +kernel
    rw [e2] at e
    have h3 : 45 = 48 + a := (List.cons.inj e).1
    omega
  · rw [z] at e
    have e2 : ("" : Str).cps.toList = [] := by decide +kernel
    rw [e2] at e; cases e
  · rw [TX.len_eq, e] at z; simp at z
theorem law_row_ok {asks : Nat} {as : List Nat} {S : Sto} (h : OkW asks as) : Wo (m_law_row_text [wD as] S) fun v S' => v = .str (wtx as) ∧ Gr S S' := by
  have a4 := h.a4
  have hl := h.len
  have sz0 : 0 ≤ sizeLine := by decide
  have hs : ∀ a ∈ as, a < 1000 := fun a ha => by have := h.ok a ha; omega
  unfold m_law_row_text b_law_row_text
  simp only [wo_run, List.map_cons, List.map_nil, List.length_cons, List.length_nil, Nat.reduceAdd, Nat.reduceSub, List.replicate, List.cons_append, List.nil_append]
  rw [ws_seq, ws_if]
  have e0 : (D.tup [] : D) = wD [] := rfl
  simp only [wt_e, we_op, we_call, wa_nil, we_var, List.getElem?_cons_zero, ex_some, wo_tup, List.length_nil, sz0, true_and, e0]
  rw [wo_eqD (row_py hs) (row_py (as := []) (fun a ha => by cases ha)) (row_lay as) (row_lay [])]
  simp only [ex_bl]
  by_cases hn : as = []
  · subst hn
    have : PyData.eqv (.tuple (([] : List Nat).map fun a => .int ((a : Nat) : Int))) (.tuple (([] : List Nat).map fun a => .int ((a : Nat) : Int))) = true := by simp [PyData.eqv, PyData.eqvAll]
    rw [this, if_pos rfl]
    simp only [ws_ret, we_c]
    exact ⟨rfl, Gr.refl S⟩
  · obtain ⟨a, r, rfl⟩ := List.exists_cons_of_ne_nil hn
    have : PyData.eqv (.tuple ((a :: r).map fun a => .int ((a : Nat) : Int))) (.tuple (([] : List Nat).map fun a => .int ((a : Nat) : Int))) = false := by simp [PyData.eqv, PyData.eqvAll]
    rw [this, if_neg (by decide)]
    simp only [ws_next]
    rw [ws_ret, we_methS, we_c]
    refine ⟨rfl, ?_⟩
    rw [wa_cons]
    refine we_compA (a :: r) (fun a => .int ((a : Nat) : Int)) (fun a => .str (nt a)) (fun S' => S' = S) (fun l => ∃ y, l = [y]) (valT_im rfl) rfl ⟨_, rfl⟩ (fun i S _ => rfl) (big_ok (by omega)) ?_ ?_
    · rintro c l S' hc ⟨y, rfl⟩ rfl
      simp only [wg_name, List.set_cons_zero]
      refine ⟨⟨_, rfl⟩, ?_⟩
      simp only [we_call, wa_cons, wa_nil, we_var, List.getElem?_cons_zero, ex_some, wo_str, small_log2 (Nat.lt_trans (hs c hc) (show 1000 < 1000000 by decide)), true_and]
      first | exact ⟨rfl, rfl⟩ | exact ⟨(by first | rfl | trivial), (by first | rfl | trivial)⟩
    · rintro S' rfl
      rw [map_txt]
      simp only [wa_nil, wo_join, lstOf_last, ex_some1, strs_of]
      exact ⟨Nat.le_trans (wt_sum h) (by decide), by unfold wtx; rw [if_neg hn]; rfl, _, rfl⟩
theorem show_row_ok {asks : Nat} {as : List Nat} {S : Sto} (h : OkW asks as) : Wo (m_show_row [wD as] S) fun v S' => v = .str (wtx as) ∧ Gr S S' := by
  have a4 := h.a4
  have hl := h.len
  have key : Wo (m_show_parts [wD as] S) fun v S' => v = .str (wt as) ∧ Gr S S' := by
    unfold m_show_parts b_show_parts
    simp only [wo_run, List.map_cons, List.map_nil, List.length_cons, List.length_nil, Nat.reduceAdd, Nat.reduceSub, List.replicate, List.cons_append, List.nil_append]
    rw [ws_ret, we_methS, we_c]
    refine ⟨rfl, ?_⟩
    rw [wa_cons]
    refine we_compA as (fun a => .int ((a : Nat) : Int)) (fun a => .str (nt a)) (fun S' => S' = S) (fun l => ∃ y, l = [y]) (valT_im rfl) rfl ⟨_, rfl⟩ (fun i S _ => rfl) (big_ok (by omega)) ?_ ?_
    · rintro c l S' hc ⟨y, rfl⟩ rfl
      have hp : ∀ S, m_show_part [.int ((c : Nat) : Int)] S = some (.str (nt c), S) := fun S => show_part_eq (g := some c) (fun k e => by cases e; have := h.ok c hc; omega)
      simp only [wg_name, List.set_cons_zero]
      refine ⟨⟨_, rfl⟩, ?_⟩
      simp only [we_call, wa_cons, wa_nil, we_var, List.getElem?_cons_zero, ex_some, hp, wo_some, and_self]
    · rintro S' rfl
      rw [map_txt]
      simp only [wa_nil, wo_join, lstOf_last, ex_some1, strs_of]
      exact ⟨Nat.le_trans (wt_sum h) (by decide), rfl, _, rfl⟩
  unfold m_show_row b_show_row
  simp only [wo_run, List.map_cons, List.map_nil, List.length_cons, List.length_nil, Nat.reduceAdd, Nat.reduceSub, List.replicate, List.cons_append, List.nil_append]
  rw [ws_ret, we_orS, we_call]
  simp only [wa_cons, wa_nil, we_var, List.getElem?_cons_zero, ex_some]
  refine key.mono ?_
  rintro v S1 ⟨rfl, g⟩
  refine ⟨_, rfl, big_ok (by have := wt_len h; omega), ?_⟩
  by_cases hn : as = []
  · subst hn
    rw [if_pos (by decide +kernel), we_c]
    exact ⟨rfl, g⟩
  · rw [if_neg (wt_not h hn).2.2]
    exact ⟨by unfold wtx; rw [if_neg hn], g⟩
theorem read_row_ok {asks : Nat} {as : List Nat} {S : Sto} (h : OkW asks as) : Wo (m_read_row [.int (asks : Int), .str (wtx as)] S) fun v S' => v = wD as ∧ Gr S S' := by
  have a4 := h.a4
  have hl := h.len
  have sz0 : 0 ≤ sizeLine := by decide
  unfold m_read_row b_read_row
  simp only [wo_run, List.map_cons, List.map_nil, List.length_cons, List.length_nil, Nat.reduceAdd, Nat.reduceSub, List.replicate, List.cons_append, List.nil_append]
  refine ws_cut (fun l S' => S' = S ∧ l = [some (.int (asks : Int)), some (.str (wtx as))]) ?_ ?_
  · simp only [wo_run, ws_seq, ws_if, wt_e, we_op, we_un, we_var, we_c, ws_asg, ws_ret, ws_drop, ws_next, ws_break, ws_cont, wg_name, wg_sub, wg_tup, wg_nil, wg_cons, wg_dput, we_call, we_methL, we_methS, wa_cons, wa_nil, wt_and, wt_or, wt_not, we_and, we_or, we_not, we_if, wo_I0, wo_I, wo_plusAI, wo_plusAT, we_slA, wp_none, wp_some, ex_int1, wo_slT, wo_intAB, wo_times, wo_ixT, wo_ixL, wo_ixAT, wo_ixAL, wo_ixAS, wo_lenT, wo_lenL, wo_lenAT, wo_lenAL, wo_lenAS, wo_abs, wo_intB, wo_tup, wo_lst, wo_tupleL, wo_eqI, wo_eqB, wo_eqSt, wo_neS, wo_neB, wo_neI, wo_is, wo_isnot, wo_str, wo_isI_bl, wo_isI_int, wo_isI_str, wo_isI_tup, wo_isI_non, isI_same, List.map_cons, List.map_nil, List.length_cons, List.length_nil, Nat.reduceAdd, Nat.reduceSub, List.replicate, List.cons_append, List.nil_append, List.getElem?_cons_zero, List.getElem?_cons_succ, List.set_cons_zero, List.set_cons_succ, ex_some, ex_some1, ex_bl, ex_int, at3_0, at3_1, at3_2, at2_0, at2_1, lstOf_last, decide_eq_true_eq, refuse_eq, wo_some, and_self]
  rintro l S1 ⟨rfl, rfl⟩
  rw [ws_seq, ws_if]
  simp only [wt_e, we_op, we_var, we_c, List.getElem?_cons_zero, List.getElem?_cons_succ, ex_some, wo_eqSt, ex_bl]
  by_cases hn : as = []
  · subst hn
    have : wtx [] = "-" := rfl
    simp only [this, decide_true, if_true, wo_run, ws_seq, ws_if, wt_e, we_op, we_un, we_var, we_c, ws_asg, ws_ret, ws_drop, ws_next, ws_break, ws_cont, wg_name, wg_sub, wg_tup, wg_nil, wg_cons, wg_dput, we_call, we_methL, we_methS, wa_cons, wa_nil, wt_and, wt_or, wt_not, we_and, we_or, we_not, we_if, wo_I0, wo_I, wo_plusAI, wo_plusAT, we_slA, wp_none, wp_some, ex_int1, wo_slT, wo_intAB, wo_times, wo_ixT, wo_ixL, wo_ixAT, wo_ixAL, wo_ixAS, wo_lenT, wo_lenL, wo_lenAT, wo_lenAL, wo_lenAS, wo_abs, wo_intB, wo_tup, wo_lst, wo_tupleL, wo_eqI, wo_eqB, wo_eqSt, wo_neS, wo_neB, wo_neI, wo_is, wo_isnot, wo_str, wo_isI_bl, wo_isI_int, wo_isI_str, wo_isI_tup, wo_isI_non, isI_same, List.map_cons, List.map_nil, List.length_cons, List.length_nil, Nat.reduceAdd, Nat.reduceSub, List.replicate, List.cons_append, List.nil_append, List.getElem?_cons_zero, List.getElem?_cons_succ, List.set_cons_zero, List.set_cons_succ, ex_some, ex_some1, ex_bl, ex_int, at3_0, at3_1, at3_2, at2_0, at2_1, lstOf_last, decide_eq_true_eq, sz0, true_and]
    exact ⟨rfl, Gr.refl _⟩
  · have e : wtx as = wt as := by unfold wtx; rw [if_neg hn]
    obtain ⟨n1, n2, n3⟩ := wt_not h hn
    rw [e]
    simp only [n1, decide_false, Bool.false_eq_true, if_false, ws_next]
    rw [ws_seq, ws_if]
    simp only [wt_e, we_op, we_var, we_c, List.getElem?_cons_zero, List.getElem?_cons_succ, ex_some, wo_eqSt, ex_bl, n2, decide_false, Bool.false_eq_true, if_false, ws_next]
    rw [ws_ret, we_call, wa_cons]
    have he : iTxt (eVar 1) [some (.int (asks : Int)), some (.str (wt as))] S1 = some (itX (as.map fun a => .str (nt a)), (as.map fun a => D.str (nt a)).length + 1, S1) := by
      rw [txt_im (z := wt as) rfl, wt_sgn h]
    refine we_compA as (fun a => .str (nt a)) (fun a => .int ((a : Nat) : Int)) (fun S' => S' = S1) (fun l => ∃ y, l = [y, some (.int (asks : Int))]) he rfl ⟨_, rfl⟩ (fun i S _ => rfl) (big_ok (by omega)) ?_ ?_
    · rintro c l S' hc ⟨y, rfl⟩ rfl
      simp only [wg_name, List.set_cons_zero]
      refine ⟨⟨_, rfl⟩, ?_⟩
      simp only [we_call, wa_cons, wa_nil, we_var, List.getElem?_cons_zero, List.getElem?_cons_succ, ex_some, read_number_eq (h.ok c hc) (show asks ≤ 24 by omega), wo_some, and_self]
    · rintro S' rfl
      simp only [wa_nil, wo_tupleL, lstOf_last, ex_some1]
      exact ⟨rfl, _, rfl⟩
end M
namespace M
open PySem L3 G
noncomputable def ShV (x : D) : Prop := ∃ p : PyData, p.shown.length ≤ sizeLine ∧ ∀ S', pyOf S' 140 x = some p
theorem shv_of {x : D} {B : Nat} (h : Sh [] 140 B x) (hB : B ≤ 1000000) : ShV x := by
  obtain ⟨p, h1, h2⟩ := h
  exact ⟨p, Nat.le_trans (Nat.le_trans h1 hB) (by decide), fun S' => h2 S' ⟨S', rfl⟩⟩
theorem sh_o {k : Nat} {g : Option Nat} (h : ∀ j, g = some j → j < 24) : Sh [] (k + 1) 10 (oD g) := by
  cases g with
  | none => exact sh_non
  | some j => exact sh_nat (Nat.lt_trans (h j rfl) (by decide))
theorem sh_c {m k : Nat} {c : Cl} (h : OkC m c) (hm : m ≤ 24) : Sh [] (k + 2) 40 (cD c) := by
  refine (sh_tup (k := k + 1) (B := 10) (n := 2) (fun x hx => ?_) (Nat.le_refl _)).le (by decide)
  rcases List.mem_cons.mp hx with rfl | hx
  · exact sh_o (h.p1 hm)
  · rw [List.mem_singleton.mp hx]; exact sh_o h.p2
theorem shv_c {m : Nat} {c : Cl} (h : OkC m c) (hm : m ≤ 24) : ShV (cD c) := shv_of (sh_c (k := 138) h hm) (by decide)
theorem shv_m {asks : Nat} {rs : List (List Cl)} (h : OkM asks rs) : ShV (mD asks rs) := by
  have ha := h.a4
  refine shv_of (B := 100000) ?_ (by decide)
  unfold mD
  refine (sh_tup (k := 139) (B := 10000) (n := 2) (fun x hx => ?_) (Nat.le_refl _)).le (by decide)
  rcases List.mem_cons.mp hx with rfl | hx
  · exact (sh_nat (k := 138) (by omega)).le (by decide)
  · rw [List.mem_singleton.mp hx]
    refine (sh_tup (k := 138) (B := 200) (n := 24) (fun y hy => ?_) (by rw [List.length_map]; exact h.r24)).le (by decide)
    obtain ⟨cs, hcs, rfl⟩ := List.mem_map.mp hy
    refine (sh_tup (k := 137) (B := 40) (n := 4) (fun z hz => ?_) (by rw [List.length_map, (h.ok cs hcs).1]; exact ha)).le (by decide)
    obtain ⟨c, hc, rfl⟩ := List.mem_map.mp hz
    exact sh_c (k := 135) ((h.ok cs hcs).2 c hc) h.r24
theorem shv_w {asks : Nat} {as : List Nat} (h : OkW asks as) : ShV (wD as) := by
  refine shv_of (B := 100000) ?_ (by decide)
  refine (sh_tup (k := 139) (B := 10) (n := 300) (fun x hx => ?_) (by rw [List.length_map]; exact h.len)).le (by decide)
  obtain ⟨a, ha, rfl⟩ := List.mem_map.mp hx
  exact sh_nat (k := 138) (by have := h.ok a ha; have := h.a4; omega)
theorem wo_rep {x : D} {S : Sto} {Q : D → Sto → Prop} (h : ShV x) (q : ∀ z, (∀ S, fRepr [x] S = some (.str z, S)) → Q (.str z) S) : Wo (fRepr [x] S) Q := by
  obtain ⟨p, h1, h2⟩ := h
  have e : ∀ S, fRepr [x] S = some (.str p.shown, S) := fun S => by
    unfold fRepr; dsimp only; rw [h2 S]; show (if _ then _ else _) = _; rw [if_pos h1]
  rw [e S, wo_some]
  exact q _ e
theorem ws_rngA {g : GM} {b : SM} (P : Nat → Lo → Sto → Prop) (O : D → Sto → Prop) {as : AM} {l : Lo} {S : Sto} {QS : Fl → Lo → Sto → Prop} (h : Wa as l S fun xs S1 => ∃ n : Nat, xs = [.int (n : Int)] ∧ n < 1000 ∧ P 0 l S1)
    (step : ∀ (i : Nat) l S, i < 1000 → P i l S → Wg (g (.int i) l S) fun l1 S1 => Ws b l1 S1 fun f l2 S2 => ((f = .nx ∨ f = .ct) ∧ P (i + 1) l2 S2) ∨ ∃ d, f = .rt d ∧ O d S2)
    (fin : ∀ i l' S', P i l' S' → QS .nx l' S') (out : ∀ d l' S', O d S' → QS (.rt d) l' S') : Ws (sForR (rng1 as) g b) l S QS := by
  obtain ⟨xs, S1, e, n, rfl, hn, p⟩ := h
  exact ws_rng P O e (by omega) p (fun i l S hi hp => step i l S (by omega) hp) (fun l S hp => fin n l S hp) out
theorem wo_min2 {i j : Int} {S : Sto} {Q : D → Sto → Prop} : Wo (fMin2 [.int i, .int j] S) Q = Q (.int (if j < i then j else i)) S := wo_some
theorem wo_max2 {i j : Int} {S : Sto} {Q : D → Sto → Prop} : Wo (fMax2 [.int i, .int j] S) Q = Q (.int (if j > i then j else i)) S := wo_some
theorem at_six (i : Nat) (hi : (i : Int) < 6) : ∃ m : Nat, L2.atI [D.int 0, .int 0, .int 1, .int 1, .int 1, .int 2] (i : Int) = some (.int m) ∧ m < 3 := by
  have : i = 0 ∨ i = 1 ∨ i = 2 ∨ i = 3 ∨ i = 4 ∨ i = 5 := by omega
  rcases this with rfl | rfl | rfl | rfl | rfl | rfl
  · exact ⟨0, rfl, by decide⟩
  · exact ⟨0, rfl, by decide⟩
  · exact ⟨1, rfl, by decide⟩
  · exact ⟨1, rfl, by decide⟩
  · exact ⟨1, rfl, by decide⟩
  · exact ⟨2, rfl, by decide⟩
theorem at_three {a b c : Nat} (i : Nat) (hi : i < 3) : ∃ m : Nat, L2.atI [D.int (a : Int), .int (b : Int), .int (c : Int)] (i : Int) = some (.int m) ∧ (m = a ∨ m = b ∨ m = c) := by
  have : i = 0 ∨ i = 1 ∨ i = 2 := by omega
  rcases this with rfl | rfl | rfl
  · exact ⟨a, rfl, .inl rfl⟩
  · exact ⟨b, rfl, .inr (.inl rfl)⟩
  · exact ⟨c, rfl, .inr (.inr rfl)⟩
theorem nats_of {m : Nat} : ∀ (vs : List D), (∀ v ∈ vs, ∃ a : Nat, v = .int (a : Int) ∧ a < m) → ∃ as : List Nat, vs = (as.map fun a => .int ((a : Nat) : Int)) ∧ ∀ a ∈ as, a < m
  | [], _ => ⟨[], rfl, fun t h => by cases h⟩
  | v :: vs, h => by
    obtain ⟨c, rfl, hc⟩ := h v List.mem_cons_self
    obtain ⟨cs, h1, h2⟩ := nats_of vs fun u hu => h u (List.mem_cons_of_mem _ hu)
    refine ⟨c :: cs, by rw [h1]; rfl, fun t ht => ?_⟩
    rcases List.mem_cons.mp ht with rfl | ht
    · exact hc
    · exact h2 t ht
noncomputable def bIn : SM := sSeq (sAsg (eCall m_law_machine_text (aCons (eVar 4) (aNil))) (gName3 10)) (sSeq (sIf (tOr3 (tE (eOp dNe (eCall m_show_machine (aCons (eVar 4) (aNil))) (eVar 10))) (tE (eOp dNe (eCall fRepr (aCons (eCall m_read_machine (aCons (eVar 10) (aNil))) (aNil))) (eCall fRepr (aCons (eVar 4) (aNil)))))) (sRet (eC (.bl false))) (sNext)) (sSeq (sAsg (eCall m_law_cell_text (aCons (eVar 6) (aNil))) (gName3 10)) (sSeq (sIf (tOr3 (tE (eOp dNe (eCall m_show_cell (aCons (eVar 6) (aNil))) (eVar 10))) (tE (eOp dNe (eCall fRepr (aCons (eCall m_read_cell (aCons (eVar 10) (aNil))) (aNil))) (eCall fRepr (aCons (eVar 6) (aNil)))))) (sRet (eC (.bl false))) (sNext)) (sSeq (sAsg (eCall m_law_row_text (aCons (eVar 8) (aNil))) (gName3 10)) (sSeq (sAsg (eCall m_read_row (aCons (eVar 3) (aCons (eVar 10) (aNil)))) (gName3 11)) (sIf (tOr3 (tE (eOp dNe (eCall fRepr (aCons (eVar 11) (aNil))) (eCall fRepr (aCons (eVar 8) (aNil))))) (tOr3 (tE (eOp dNe (eCall m_show_row (aCons (eVar 11) (aNil))) (eVar 10))) (tAnd3 (tE (eOp dLe (eVar 7) (eC (.int 60)))) (tE (eOp dNe (eCall m_show_row (aCons (eVar 8) (aNil))) (eVar 10)))))) (sRet (eC (.bl false))) (sNext)))))))
theorem in_ok {asks : Nat} {rs : List (List Cl)} {c : Cl} {as : List Nat} {lg : Nat} {S : Sto} {y0 y1 y2 y5 y9 y10 y11 : Option D} (h : OkM asks rs) (hc : OkC rs.length c) (hw : OkW asks as) :
    Ws bIn [y0, y1, y2, some (.int (asks : Int)), some (mD asks rs), y5, some (cD c), some (.int (lg : Int)), some (wD as), y9, y10, y11] S fun f l S' => f = .nx ∧ Gr S S' ∧ ∃ y9 y10 y11, l = [y0, y1, y2, some (.int (asks : Int)), some (mD asks rs), y5, some (cD c), some (.int (lg : Int)), some (wD as), y9, y10, y11] := by
  unfold bIn
  refine ws_cut (fun l S' => Gr S S' ∧ l = [y0, y1, y2, some (.int (asks : Int)), some (mD asks rs), y5, some (cD c), some (.int (lg : Int)), some (wD as), y9, some (.str (mt asks rs)), y11]) ?_ ?_
  · simp only [ws_asg, we_call, wa_cons, wa_nil, we_var, List.getElem?_cons_zero, List.getElem?_cons_succ, ex_some]
    refine (law_text_ok h).mono ?_
    rintro v S1 ⟨rfl, g⟩
    simp only [wg_name, List.set_cons_zero, List.set_cons_succ]
    first | exact ⟨(by first | rfl | trivial), g, (by first | rfl | trivial)⟩ | exact ⟨g, (by first | rfl | trivial)⟩
  rintro l S1 ⟨g1, rfl⟩
  refine ws_cut (fun l S' => Gr S S' ∧ l = [y0, y1, y2, some (.int (asks : Int)), some (mD asks rs), y5, some (cD c), some (.int (lg : Int)), some (wD as), y9, some (.str (mt asks rs)), y11]) ?_ ?_
  · rw [ws_if]
    simp only [wt_or, wt_e, we_op, we_call, wa_cons, wa_nil, we_var, List.getElem?_cons_zero, List.getElem?_cons_succ, ex_some]
    refine (show_machine_ok h).mono ?_
    rintro v S2 ⟨rfl, g2⟩
    simp only [wo_neS, ex_bl, decide_true, Bool.not_true, Bool.false_eq_true, if_false]
    refine (read_machine_ok h).mono ?_
    rintro v S3 ⟨rfl, g3⟩
    refine wo_rep (shv_m h) fun z hz => ?_
    simp only [hz, wo_some, wo_neS, ex_bl, decide_true, Bool.not_true, Bool.false_eq_true, if_false, ws_next]
    first | exact ⟨(by first | rfl | trivial), (g1.trans g2).trans g3, (by first | rfl | trivial)⟩ | exact ⟨(g1.trans g2).trans g3, (by first | rfl | trivial)⟩
  rintro l S2 ⟨g2, rfl⟩
  refine ws_cut (fun l S' => Gr S S' ∧ l = [y0, y1, y2, some (.int (asks : Int)), some (mD asks rs), y5, some (cD c), some (.int (lg : Int)), some (wD as), y9, some (.str (ct c)), y11]) ?_ ?_
  · simp only [ws_asg, we_call, wa_cons, wa_nil, we_var, List.getElem?_cons_zero, List.getElem?_cons_succ, ex_some, law_cell_eq hc h.r24, wo_some, wg_name, List.set_cons_zero, List.set_cons_succ]
    first | exact ⟨(by first | rfl | trivial), g2, (by first | rfl | trivial)⟩ | exact ⟨g2, (by first | rfl | trivial)⟩
  rintro l S3 ⟨g3, rfl⟩
  refine ws_cut (fun l S' => Gr S S' ∧ l = [y0, y1, y2, some (.int (asks : Int)), some (mD asks rs), y5, some (cD c), some (.int (lg : Int)), some (wD as), y9, some (.str (ct c)), y11]) ?_ ?_
  · rw [ws_if]
    simp only [wt_or, wt_e, we_op, we_call, wa_cons, wa_nil, we_var, List.getElem?_cons_zero, List.getElem?_cons_succ, ex_some, show_cell_eq hc h.r24, wo_some, wo_neS, ex_bl, decide_true, Bool.not_true, Bool.false_eq_true, if_false]
    refine (read_cell_ok hc h.r24).mono ?_
    rintro v S4 ⟨rfl, g4⟩
    refine wo_rep (shv_c hc h.r24) fun z hz => ?_
    simp only [hz, wo_some, wo_neS, ex_bl, decide_true, Bool.not_true, Bool.false_eq_true, if_false, ws_next]
    first | exact ⟨(by first | rfl | trivial), g3.trans g4, (by first | rfl | trivial)⟩ | exact ⟨g3.trans g4, (by first | rfl | trivial)⟩
  rintro l S4 ⟨g4, rfl⟩
  refine ws_cut (fun l S' => Gr S S' ∧ l = [y0, y1, y2, some (.int (asks : Int)), some (mD asks rs), y5, some (cD c), some (.int (lg : Int)), some (wD as), y9, some (.str (wtx as)), y11]) ?_ ?_
  · simp only [ws_asg, we_call, wa_cons, wa_nil, we_var, List.getElem?_cons_zero, List.getElem?_cons_succ, ex_some]
    refine (law_row_ok hw).mono ?_
    rintro v S5 ⟨rfl, g⟩
    simp only [wg_name, List.set_cons_zero, List.set_cons_succ]
    first | exact ⟨(by first | rfl | trivial), g4.trans g, (by first | rfl | trivial)⟩ | exact ⟨g4.trans g, (by first | rfl | trivial)⟩
  rintro l S5 ⟨g5, rfl⟩
  refine ws_cut (fun l S' => Gr S S' ∧ l = [y0, y1, y2, some (.int (asks : Int)), some (mD asks rs), y5, some (cD c), some (.int (lg : Int)), some (wD as), y9, some (.str (wtx as)), some (wD as)]) ?_ ?_
  · simp only [ws_asg, we_call, wa_cons, wa_nil, we_var, List.getElem?_cons_zero, List.getElem?_cons_succ, ex_some]
    refine (read_row_ok hw).mono ?_
    rintro v S6 ⟨rfl, g⟩
    simp only [wg_name, List.set_cons_zero, List.set_cons_succ]
    first | exact ⟨(by first | rfl | trivial), g5.trans g, (by first | rfl | trivial)⟩ | exact ⟨g5.trans g, (by first | rfl | trivial)⟩
  rintro l S6 ⟨g6, rfl⟩
  rw [ws_if]
  simp only [wt_or, wt_and, wt_e, we_op, we_call, wa_cons, wa_nil, we_var, we_c, List.getElem?_cons_zero, List.getElem?_cons_succ, ex_some]
  refine wo_rep (shv_w hw) fun z hz => ?_
  simp only [hz, wo_some, wo_neS, ex_bl, decide_true, Bool.not_true, Bool.false_eq_true, if_false]
  refine (show_row_ok hw).mono ?_
  rintro v S7 ⟨rfl, g7⟩
  simp only [wo_neS, wo_I0, ex_bl, decide_true, Bool.not_true, Bool.false_eq_true, if_false]
  have g7' := g6.trans g7
  by_cases hl : (lg : Int) ≤ 60
  · simp only [hl, decide_true, if_true]
    refine (show_row_ok hw).mono ?_
    rintro v S8 ⟨rfl, g8⟩
    simp only [wo_neS, ex_bl, decide_true, Bool.not_true, Bool.false_eq_true, if_false, ws_next]
    first | exact ⟨(by first | rfl | trivial), g7'.trans g8, _, _, _, rfl⟩ | exact ⟨g7'.trans g8, _, _, _, rfl⟩
  · simp only [hl, decide_false, Bool.false_eq_true, if_false, ws_next]
    first | exact ⟨(by first | rfl | trivial), g7', _, _, _, rfl⟩ | exact ⟨g7', _, _, _, rfl⟩
end M
namespace M
open PySem L3 G
theorem law_true (ns : List Int) (hl : ns.length ≤ 63) : ∃ S', m_law [.ref 0] [.flst (ns.map D.int)] = some (.bl true, S') := by
  have sz3 : 3 ≤ sizeLine := by decide
  have sz6 : 6 ≤ sizeLine := by decide
  have key : Wo (m_law [.ref 0] [.flst (ns.map D.int)]) fun v _ => v = .bl true := by
    unfold m_law b_law
    simp only [wo_run, List.map_cons, List.map_nil, List.length_cons, List.length_nil, Nat.reduceAdd, Nat.reduceSub, List.replicate, List.cons_append, List.nil_append]
    rw [ws_seq]
    refine ws_rngA (fun _ l S => lstOf S 0 = some (ns.map D.int) ∧ ∃ y1 y2 y3 y4 y5 y6 y7 y8 y9 y10 y11, l = [some (.ref 0), y1, y2, y3, y4, y5, y6, y7, y8, y9, y10, y11]) (fun _ _ => False) ?_ ?_ ?_ (fun d l S h => h.elim)
    · have h0 : lstOf [.flst (ns.map D.int)] 0 = some (ns.map D.int) := rfl
      simp only [wa_cons, wa_nil, we_call, we_var, we_c, List.getElem?_cons_zero, ex_some, wo_lenAL, h0, ex_some1, List.length_map, wo_min2, wo_max2]
      refine ⟨(if (if (12 : Int) < (ns.length : Int) then 12 else (ns.length : Int)) > 2 then (if (12 : Int) < (ns.length : Int) then 12 else (ns.length : Int)) else 2).toNat, ?_, ?_, (by first | rfl | trivial), _, _, _, _, _, _, _, _, _, _, _, rfl⟩
      · rw [Int.toNat_of_nonneg (by split <;> split <;> omega)]
      · split <;> split <;> omega
    · rintro k l S0 hk ⟨h0, y1, y2, y3, y4, y5, y6, y7, y8, y9, y10, y11, rfl⟩
      simp only [wg_name, List.set_cons_zero, List.set_cons_succ]
      refine ws_cut (fun l S => ∃ n, lstOf S 0 = some (ns.map D.int) ∧ PQ n S ∧ 0 ≠ n ∧ l = [some (.ref 0), some (.int (k : Int)), some (.ref n), y3, y4, y5, y6, y7, y8, y9, y10, y11]) ?_ ?_
      · simp only [ws_asg, we_call, wa_cons, wa_nil, we_var, List.getElem?_cons_zero, List.getElem?_cons_succ, ex_some]
        refine (pen_ok ns k S0 h0 (by omega)).mono ?_
        rintro v S1 ⟨rfl, p1, g1⟩
        simp only [wg_name, List.set_cons_zero, List.set_cons_succ]
        have hne : 0 ≠ S0.length := by
          intro z
          have : S0 = [] := List.length_eq_zero_iff.mp z.symm
          rw [this] at h0; cases h0
        first | exact ⟨(by first | rfl | trivial), S0.length, g1.lst h0, p1, hne, rfl⟩ | exact ⟨S0.length, g1.lst h0, p1, hne, rfl⟩
      rintro l S1 ⟨n, h1, p1, hn, rfl⟩
      refine ws_cut (fun l S => lstOf S 0 = some (ns.map D.int) ∧ PQ n S ∧ ∃ asks : Nat, 1 ≤ asks ∧ asks ≤ 4 ∧ l = [some (.ref 0), some (.int (k : Int)), some (.ref n), some (.int (asks : Int)), y4, y5, y6, y7, y8, y9, y10, y11]) ?_ ?_
      · simp only [ws_asg, we_op, we_call, wa_cons, wa_nil, we_var, we_c, List.getElem?_cons_zero, List.getElem?_cons_succ, ex_some]
        refine (draw_ok n 4 S1 p1 (by decide) (by decide)).mono ?_
        rintro x S2 ⟨⟨d, rfl, hd⟩, p2, f2⟩
        have e : (1 : Int) + (d : Int) = ((1 + d : Nat) : Int) := by push_cast; rfl
        simp only [wo_plusAI, e, wg_name, List.set_cons_zero, List.set_cons_succ]
        first | exact ⟨(by first | rfl | trivial), f2.lst hn h1, p2, 1 + d, by omega, by omega, rfl⟩ | exact ⟨f2.lst hn h1, p2, 1 + d, by omega, by omega, rfl⟩
      rintro l S2 ⟨h2, p2, asks, a1, a4, rfl⟩
      refine ws_cut (fun l S => lstOf S 0 = some (ns.map D.int) ∧ PQ n S ∧ ∃ rs, OkM asks rs ∧ l = [some (.ref 0), some (.int (k : Int)), some (.ref n), some (.int (asks : Int)), some (mD asks rs), y5, y6, y7, y8, y9, y10, y11]) ?_ ?_
      · simp only [ws_asg, we_op, we_call, wa_cons, wa_nil, we_var, we_c, List.getElem?_cons_zero, List.getElem?_cons_succ, ex_some]
        refine (machine_ok n asks S2 p2 a1 a4).mono ?_
        rintro v S3 ⟨⟨rs, rfl, ok⟩, p3, f3⟩
        simp only [wg_name, List.set_cons_zero, List.set_cons_succ]
        first | exact ⟨(by first | rfl | trivial), f3.lst hn h2, p3, rs, ok, rfl⟩ | exact ⟨f3.lst hn h2, p3, rs, ok, rfl⟩
      rintro l S3 ⟨h3, p3, rs, ok, rfl⟩
      have r1 := ok.r1
      have r24 := ok.r24
      refine ws_cut (fun l S => lstOf S 0 = some (ns.map D.int) ∧ PQ n S ∧ ∃ cs, OkR rs.length asks cs ∧ l = [some (.ref 0), some (.int (k : Int)), some (.ref n), some (.int (asks : Int)), some (mD asks rs), some (rD cs), y6, y7, y8, y9, y10, y11]) ?_ ?_
      · simp only [ws_asg, we_op, we_call, wa_cons, wa_nil, we_var, we_c, List.getElem?_cons_zero, List.getElem?_cons_succ, ex_some, mD, wo_ixAT, at2_1, ex_some1, wo_lenAT, List.length_map]
        refine (draw_ok n (rs.length : Int) S3 p3 (by omega) (by omega)).mono ?_
        rintro x S4 ⟨⟨t, rfl, ht⟩, p4, f4⟩
        obtain ⟨u, hu1, hu2⟩ := atI_in (rs.map rD) (t : Int) (by omega) (by rw [List.length_map]; omega)
        obtain ⟨cs, hcs, rfl⟩ := List.mem_map.mp hu2
        simp only [wo_ixAT, hu1, ex_some1, wg_name, List.set_cons_zero, List.set_cons_succ]
        first | exact ⟨(by first | rfl | trivial), f4.lst hn h3, p4, cs, ok.ok cs hcs, rfl⟩ | exact ⟨f4.lst hn h3, p4, cs, ok.ok cs hcs, rfl⟩
      rintro l S4 ⟨h4, p4, cs, okr, rfl⟩
      refine ws_cut (fun l S => lstOf S 0 = some (ns.map D.int) ∧ PQ n S ∧ ∃ c, OkC rs.length c ∧ l = [some (.ref 0), some (.int (k : Int)), some (.ref n), some (.int (asks : Int)), some (mD asks rs), some (rD cs), some (cD c), y7, y8, y9, y10, y11]) ?_ ?_
      · simp only [ws_asg, we_op, we_call, wa_cons, wa_nil, we_var, we_c, List.getElem?_cons_zero, List.getElem?_cons_succ, ex_some]
        refine (draw_ok n (asks : Int) S4 p4 (by omega) (by omega)).mono ?_
        rintro x S5 ⟨⟨t, rfl, ht⟩, p5, f5⟩
        obtain ⟨u, hu1, hu2⟩ := atI_in (cs.map cD) (t : Int) (by omega) (by rw [List.length_map, okr.1]; omega)
        obtain ⟨c, hc, rfl⟩ := List.mem_map.mp hu2
        simp only [rD, wo_ixAT, hu1, ex_some1, wg_name, List.set_cons_zero, List.set_cons_succ]
        first | exact ⟨(by first | rfl | trivial), f5.lst hn h4, p5, c, okr.2 c hc, rfl⟩ | exact ⟨f5.lst hn h4, p5, c, okr.2 c hc, rfl⟩
      rintro l S5 ⟨h5, p5, c, okc, rfl⟩
      refine ws_cut (fun l S => lstOf S 0 = some (ns.map D.int) ∧ PQ n S ∧ ∃ lg : Nat, lg ≤ 300 ∧ l = [some (.ref 0), some (.int (k : Int)), some (.ref n), some (.int (asks : Int)), some (mD asks rs), some (rD cs), some (cD c), some (.int (lg : Int)), y8, y9, y10, y11]) ?_ ?_
      · simp only [ws_asg, we_op, we_call, wa_cons, wa_nil, we_var, we_c, List.getElem?_cons_zero, List.getElem?_cons_succ, ex_some]
        refine (draw_ok n 4 S5 p5 (by decide) (by decide)).mono ?_
        rintro x S6 ⟨⟨d1, rfl, hd1⟩, p6, f6⟩
        refine (draw_ok n 61 S6 p6 (by decide) (by decide)).mono ?_
        rintro x S7 ⟨⟨d2, rfl, hd2⟩, p7, f7⟩
        simp only [wo_lst, List.length_cons, List.length_nil, Nat.reduceAdd, sz3, sz6, true_and]
        refine (draw_ok n 6 _ ((p7.gr ⟨_, rfl⟩).gr ⟨_, rfl⟩) (by decide) (by decide)).mono ?_
        rintro x S8 ⟨⟨d3, rfl, hd3⟩, p8, f8⟩
        have n7 := p7.lt
        have e1 := f8.lst (by rw [List.length_append]; show _ ≠ n; simp; omega) (lstOf_last (S := S7 ++ [.lst [.int (d1 : Int), .int (d2 : Int), .int 300]]) (xs := [.int 0, .int 0, .int 1, .int 1, .int 1, .int 2]))
        have e2 := f8.lst (Ne.symm (Nat.ne_of_lt n7)) (Gr.lst ⟨_, rfl⟩ (lstOf_last (S := S7) (xs := [.int (d1 : Int), .int (d2 : Int), .int 300])))
        have h8 := f8.lst hn (Gr.lst ⟨_, rfl⟩ (Gr.lst ⟨_, rfl⟩ (f7.lst hn (f6.lst hn h5))))
        obtain ⟨m, hm, hm3⟩ := at_six d3 hd3
        obtain ⟨lg, hlg, hor⟩ := at_three (a := d1) (b := d2) (c := 300) m hm3
        have hlg : L2.atI [D.int (d1 : Int), .int (d2 : Int), .int 300] (m : Int) = some (.int lg) := hlg
        simp only [wo_ixAL, e1, e2, ex_some1, hm, hlg, wg_name, List.set_cons_zero, List.set_cons_succ]
        first | exact ⟨(by first | rfl | trivial), h8, p8, lg, by omega, rfl⟩ | exact ⟨h8, p8, lg, by omega, rfl⟩
      rintro l S6 ⟨h6, p6, lg, lg3, rfl⟩
      refine ws_cut (fun l S => lstOf S 0 = some (ns.map D.int) ∧ ∃ as, OkW asks as ∧ l = [some (.ref 0), some (.int (k : Int)), some (.ref n), some (.int (asks : Int)), some (mD asks rs), some (rD cs), some (cD c), some (.int (lg : Int)), some (wD as), y9, y10, y11]) ?_ ?_
      · rw [ws_asg, we_call, wa_cons]
        refine we_compV (rngD 0 lg) (fun v => ∃ a : Nat, v = .int (a : Int) ∧ a < asks) (fun _ S' => PQ n S' ∧ lstOf S' 0 = some (ns.map D.int)) (fun l => ∃ y0, l = [y0, some (.ref n), some (.int (asks : Int))]) (rng_im (as1 rfl) (by omega)) ⟨p6, h6⟩ ⟨_, rfl⟩ (fun i S _ => rfl) (by rw [rngD_len]; exact big_ok (by omega)) ?_ ?_
        · rintro j x l S7 hx ⟨y0, rfl⟩ ⟨p7, h7⟩
          simp only [wg_name, List.set_cons_zero]
          refine ⟨⟨_, rfl⟩, ?_⟩
          simp only [we_call, wa_cons, wa_nil, we_var, List.getElem?_cons_zero, List.getElem?_cons_succ, ex_some]
          refine (draw_ok n (asks : Int) S7 p7 (by omega) (by omega)).mono ?_
          rintro v S8 ⟨⟨a, rfl, ha⟩, p8, f8⟩
          exact ⟨⟨a, rfl, by omega⟩, p8, f8.lst hn h7⟩
        · rintro vs S7 hlen hv ⟨p7, h7⟩
          obtain ⟨as, rfl, has⟩ := nats_of vs hv
          rw [rngD_len, List.length_map] at hlen
          simp only [wa_nil, wo_tupleL, lstOf_last, ex_some1, wg_name, List.set_cons_zero, List.set_cons_succ]
          first | exact ⟨(by first | rfl | trivial), Gr.lst ⟨_, rfl⟩ h7, as, ⟨by omega, has, a4⟩, rfl⟩ | exact ⟨Gr.lst ⟨_, rfl⟩ h7, as, ⟨by omega, has, a4⟩, rfl⟩
      rintro l S7 ⟨h7, as, okw, rfl⟩
      refine ws_rng (n := 2) (fun _ l S => lstOf S 0 = some (ns.map D.int) ∧ ∃ y9 y10 y11, l = [some (.ref 0), some (.int (k : Int)), some (.ref n), some (.int (asks : Int)), some (mD asks rs), some (rD cs), some (cD c), some (.int (lg : Int)), some (wD as), y9, y10, y11]) (fun _ _ => False) rfl (by decide) ⟨h7, _, _, _, rfl⟩ ?_ ?_ (fun d l S h => h.elim)
      · rintro j l S8 hj ⟨h8, y9, y10, y11, rfl⟩
        simp only [wg_name, List.set_cons_zero, List.set_cons_succ]
        refine (in_ok (lg := lg) ok okc okw).mono ?_
        rintro f l S9 ⟨rfl, g9, hl9⟩
        exact .inl ⟨.inl rfl, g9.lst h8, hl9⟩
      · rintro l S8 ⟨h8, y9, y10, y11, rfl⟩
        exact .inl ⟨.inl rfl, h8, _, _, _, _, _, _, _, _, _, _, _, rfl⟩
    · rintro m l S4 _
      simp only [wo_run, ws_seq, ws_if, wt_e, we_op, we_un, we_var, we_c, ws_asg, ws_ret, ws_drop, ws_next, ws_break, ws_cont, wg_name, wg_sub, wg_tup, wg_nil, wg_cons, wg_dput, we_call, we_methL, we_methS, wa_cons, wa_nil, wt_and, wt_or, wt_not, we_and, we_or, we_not, we_if, wo_I0, wo_I, wo_plusAI, wo_plusAT, we_slA, wp_none, wp_some, ex_int1, wo_slT, wo_intAB, wo_times, wo_ixT, wo_ixL, wo_ixAT, wo_ixAL, wo_ixAS, wo_lenT, wo_lenL, wo_lenAT, wo_lenAL, wo_lenAS, wo_abs, wo_intB, wo_tup, wo_lst, wo_tupleL, wo_eqI, wo_eqB, wo_eqSt, wo_neS, wo_neB, wo_neI, wo_is, wo_isnot, wo_str, wo_isI_bl, wo_isI_int, wo_isI_str, wo_isI_tup, wo_isI_non, isI_same, List.map_cons, List.map_nil, List.length_cons, List.length_nil, Nat.reduceAdd, Nat.reduceSub, List.replicate, List.cons_append, List.nil_append, List.getElem?_cons_zero, List.getElem?_cons_succ, List.set_cons_zero, List.set_cons_succ, ex_some, ex_some1, ex_bl, ex_int, at3_0, at3_1, at3_2, at2_0, at2_1, lstOf_last, decide_eq_true_eq]
  obtain ⟨v, S', e, rfl⟩ := key
  exact ⟨S', e⟩
end M
open PySem PySem.W PyProof.Rows
theorem PySem.Challenge.cw_opencells_k61_machines_written_holds : PySem.Challenge.rw_opencells_k61_machines_written.Holds := by
  w_on; o_law; k_head; (case hw => w_witness2)
  k_fill
  refine G.walk (l := PySem.Challenge.rw_opencells_k61_machines_written) rfl rfl (fun w h Y => PySem.W.kIn_of Y) ?F (fun ns hl => M.law_true ns hl)
  case F =>
    intro w mg fa h KX GN hmg
    refine' G.all_mk KX GN hmg ?a0 ?l0 ?c0 ?k0 ?a1 ?l1 ?c1 ?k1 ?a2 ?l2 ?c2 ?k2 ?a3 ?l3 ?c3 ?k3 ?a4 ?l4 ?c4 ?k4 ?a5 ?l5 ?c5 ?k5 ?a6 ?l6 ?c6 ?k6 ?a7 ?l7 ?c7 ?k7 ?a8 ?l8 ?c8 ?k8 ?a9 ?l9 ?c9 ?k9 ?a10 ?l10 ?c10 ?k10 ?a11 ?l11 ?c11 ?k11 ?a12 ?l12 ?c12 ?k12 ?a13 ?l13 ?c13 ?k13 ?a14 ?l14 ?c14 ?k14 ?a15 ?l15 ?c15 ?k15 ?a16 ?l16 ?c16 ?k16 ?a17 ?l17 ?c17 ?k17 ?a18 ?l18 ?c18 ?k18 ?a19 ?l19 ?c19 ?k19 ?a20 ?l20 ?c20 ?k20 ?a21 ?l21 ?c21 ?k21 ?a22 ?l22 ?c22 ?k22 ?a23 ?l23 ?c23 ?k23 ?z_str ?z_range ?z_isinstance ?z_tuple ?z_len ?z_int ?z_bool ?z_all ?z_list ?z_repr ?z_max ?z_min ?c_ANSWERS ?c_MOST_ROOMS ?c_MOST_ASKS
    (case a0 => k_is)
    (case l0 => k_is)
    (case c0 => k_is)
    (case k0 => k_is)
    (case a1 => k_is)
    (case l1 => k_is)
    (case c1 => k_is)
    (case k1 => k_is)
    (case a2 => k_is)
    (case l2 => k_is)
    (case c2 => k_is)
    (case k2 => k_is)
    (case a3 => k_is)
    (case l3 => k_is)
    (case c3 => k_is)
    (case k3 => k_is)
    (case a4 => k_is)
    (case l4 => k_is)
    (case c4 => k_is)
    (case k4 => k_is)
    (case a5 => k_is)
    (case l5 => k_is)
    (case c5 => k_is)
    (case k5 => k_is)
    (case a6 => k_is)
    (case l6 => k_is)
    (case c6 => k_is)
    (case k6 => k_is)
    (case a7 => k_is)
    (case l7 => k_is)
    (case c7 => k_is)
    (case k7 => k_is)
    (case a8 => k_is)
    (case l8 => k_is)
    (case c8 => k_is)
    (case k8 => k_is)
    (case a9 => k_is)
    (case l9 => k_is)
    (case c9 => k_is)
    (case k9 => k_is)
    (case a10 => k_is)
    (case l10 => k_is)
    (case c10 => k_is)
    (case k10 => k_is)
    (case a11 => k_is)
    (case l11 => k_is)
    (case c11 => k_is)
    (case k11 => k_is)
    (case a12 => k_is)
    (case l12 => k_is)
    (case c12 => k_is)
    (case k12 => k_is)
    (case a13 => k_is)
    (case l13 => k_is)
    (case c13 => k_is)
    (case k13 => k_is)
    (case a14 => k_is)
    (case l14 => k_is)
    (case c14 => k_is)
    (case k14 => k_is)
    (case a15 => k_is)
    (case l15 => k_is)
    (case c15 => k_is)
    (case k15 => k_is)
    (case a16 => k_is)
    (case l16 => k_is)
    (case c16 => k_is)
    (case k16 => k_is)
    (case a17 => k_is)
    (case l17 => k_is)
    (case c17 => k_is)
    (case k17 => k_is)
    (case a18 => k_is)
    (case l18 => k_is)
    (case c18 => k_is)
    (case k18 => k_is)
    (case a19 => k_is)
    (case l19 => k_is)
    (case c19 => k_is)
    (case k19 => k_is)
    (case a20 => k_is)
    (case l20 => k_is)
    (case c20 => k_is)
    (case k20 => k_is)
    (case a21 => k_is)
    (case l21 => k_is)
    (case c21 => k_is)
    (case k21 => k_is)
    (case a22 => k_is)
    (case l22 => k_is)
    (case c22 => k_is)
    (case k22 => k_is)
    (case a23 => k_is)
    (case l23 => k_is)
    (case c23 => k_is)
    (case k23 => k_is)
    (case z_str => k_is)
    (case z_range => k_is)
    (case z_isinstance => k_is)
    (case z_tuple => k_is)
    (case z_len => k_is)
    (case z_int => k_is)
    (case z_bool => k_is)
    (case z_all => k_is)
    (case z_list => k_is)
    (case z_repr => k_is)
    (case z_max => k_is)
    (case z_min => k_is)
    (case c_ANSWERS => k_is)
    (case c_MOST_ROOMS => k_is)
    (case c_MOST_ASKS => k_is)
#print axioms PySem.Challenge.cw_opencells_k61_machines_written_holds