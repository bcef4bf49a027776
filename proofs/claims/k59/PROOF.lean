import PyProof.Rows.All
import Wide.All
import OpenK.AllK
import Wide.FinOn
import Lean
import PyProof.EqAt
import PyProof.EqKinds
import PyProof.TupleCall
import PyProof.ReprLen
import PyProof.ReprRoads
import PyProof.P3Eq
import PyProof.SetRoads
import PyProof.IsRules
import PyProof.ListRange
import PyProof.ConsumeWalk
import PyProof.NeKinds
import PyProof.DictTable
import PyProof.Draws
import PyProof.EnumMake
import KE.BitLaws
import KE.KIntText
import KE.KRevIter
import PyProof.Rows.SumAny
import PyProof.StrLawsRepr
import PyProof.Rows.SortStrRead
import PyProof.DictCompW
import PyProof.StrOps2
import PyProof.DictWalks
import OpenK.KOwn
import PyProof.NsDelKeeps
import PyProof.RulesAs
import KE.KIsAll
import PyProof.ExcArgsOwn
import PyProof.ExcAttrAll.ValueError
import PyProof.TupleKey
import PyProof.DictRoadsH
import KE.KSortTup
import KE.KDictSum
import PyProof.Rows.TupDisplay
import PyProof.ZipIter
import PyProof.FactsAll.tuple_1
import PyProof.Dict
import PyProof.FactsAll.tuple_2
import PyProof.FactsAll.tuple_3
import PyProof.MeetsSeq
import PyProof.Rows.FStr
import PyProof.Rows.RuleM_int
import PyProof.Rows.SetFrom
import PyProof.Rows.StrItems
import PyProof.Rows.StrNews2
import PyProof.StrWalks
import PyProof.WalksMore
import KE.KLam
import KE.KNestM
import KE.KSortKey
import PySem.Challenge.RW_opencells_k59_orders_and_names
set_option Elab.async false
set_option maxHeartbeats 4000000
set_option maxRecDepth 100000
set_option linter.unusedSimpArgs false
set_option linter.unusedVariables false
namespace TS
open PySem PySem.SetTable
noncomputable def F : Nat → Nat → Nat
  | 0, x => x
  | n + 1, x => 5 * F n x + 1
theorem F_add (a : Nat) : ∀ (b x : Nat), F (a + b) x = F a (F b x) := by
  induction a with
  | zero => intro b x; rw [Nat.zero_add]; rfl
  | succ a ih => intro b x; rw [show a + 1 + b = (a + b) + 1 by omega]; show 5 * F (a + b) x + 1 = 5 * F a (F b x) + 1; rw [ih]
theorem F_lin (k : Nat) : ∃ u, ∀ x, F (2 ^ k) x = (4 * (2 ^ k * (2 * u + 1)) + 1) * x + 2 ^ k * (2 * u + 1) := by
  induction k with
  | zero => exact ⟨0, fun x => by show 5 * x + 1 = _; omega⟩
  | succ k ih =>
    obtain ⟨u, h⟩ := ih
    generalize hB : 2 ^ k * (2 * u + 1) = B at h
    refine ⟨2 * u * B + u + B, fun x => ?_⟩
    have e : 2 ^ (k + 1) = 2 ^ k + 2 ^ k := by rw [Nat.pow_succ]; omega
    rw [show F (2 ^ (k + 1)) x = F (2 ^ k) (F (2 ^ k) x) by rw [e]; exact F_add _ _ _, h, h]
    have e2 : 2 ^ (k + 1) * (2 * (2 * u * B + u + B) + 1) = 2 * B * (2 * B + 1) := by
      rw [Nat.pow_succ, ← hB]
      generalize 2 ^ k = p
      grind
    rw [e2]
    clear e2 h hB
    grind
theorem mod_two {M a b : Nat} (hM : 0 < M) (h : a % M = b % M) (h2 : a % (2 * M) ≠ b % (2 * M)) : (a + M) % (2 * M) = b % (2 * M) := by
  have key : ∀ x, x % (2 * M) = x % M ∨ x % (2 * M) = x % M + M := fun x => by
    have e1 : x % (2 * M) < 2 * M := Nat.mod_lt _ (by omega)
    have e2 : x % (2 * M) % M = x % M := Nat.mod_mod_of_dvd x ⟨2, Nat.mul_comm _ _⟩
    by_cases hl : x % (2 * M) < M
    · left; rw [← e2, Nat.mod_eq_of_lt hl]
    · right
      have e3 : x % (2 * M) % M = (x % (2 * M) - M) % M := Nat.mod_eq_sub_mod (by omega)
      have e4 : (x % (2 * M) - M) % M = x % (2 * M) - M := Nat.mod_eq_of_lt (by omega)
      rw [← e2, e3, e4]; omega
  have hb := Nat.mod_lt b hM
  rw [Nat.add_mod, Nat.mod_eq_of_lt (show M < 2 * M by omega)]
  rcases key a with ha | ha <;> rcases key b with hb2 | hb2
  · omega
  · rw [ha, Nat.mod_eq_of_lt (by omega)]; omega
  · rw [ha, hb2, show a % M + M + M = a % M + 2 * M by omega, Nat.add_mod_right, Nat.mod_eq_of_lt (by omega)]; omega
  · omega
theorem F_surj (k : Nat) : ∀ x y : Nat, ∃ n, n < 2 ^ k ∧ F n x % 2 ^ k = y % 2 ^ k := by
  induction k with
  | zero => intro x y; exact ⟨0, by decide, by simp [Nat.mod_one]⟩
  | succ k ih =>
    intro x y
    obtain ⟨n, hn, h⟩ := ih x y
    have e : 2 ^ (k + 1) = 2 * 2 ^ k := by rw [Nat.pow_succ, Nat.mul_comm]
    have hM : 0 < 2 ^ k := Nat.two_pow_pos k
    rw [e]
    by_cases h2 : F n x % (2 * 2 ^ k) = y % (2 * 2 ^ k)
    · exact ⟨n, by omega, h2⟩
    · refine ⟨2 ^ k + n, by omega, ?_⟩
      obtain ⟨u, hl⟩ := F_lin k
      rw [F_add, hl]
      generalize F n x = z at h h2
      generalize 2 ^ k = M at *
      have e3 : (4 * (M * (2 * u + 1)) + 1) * z + M * (2 * u + 1) = z + M + 2 * M * (u + 2 * z * (2 * u + 1)) := by
        grind
      rw [e3, Nat.add_mul_mod_self_left]
      exact mod_two hM h h2
noncomputable def adv (mask : Nat) (p : Probe) : Probe :=
  if p.more > 0 then { p with j := p.j + 1, more := p.more - 1 } else
  let (i, perturb) := leap mask p.i p.perturb
  { p with j := i, more := runEnd mask i - i, i, perturb }
noncomputable def st0 (mask : Nat) (h : Int) : Probe := { j := bits h % (mask + 1), more := runEnd mask (bits h % (mask + 1)) - bits h % (mask + 1), i := bits h % (mask + 1), perturb := bits h, dummy := none }
noncomputable def pn (mask : Nat) (h : Int) : Nat → Probe
  | 0 => st0 mask h
  | n + 1 => adv mask (pn mask h n)
noncomputable def bl (mask : Nat) (h : Int) : Nat → Nat × Nat
  | 0 => (bits h % (mask + 1), bits h)
  | n + 1 => leap mask (bl mask h n).1 (bl mask h n).2
noncomputable def ss (mask : Nat) (h : Int) : Nat → Nat
  | 0 => 0
  | n + 1 => ss mask h n + (runEnd mask (bl mask h n).1 - (bl mask h n).1) + 1
noncomputable def blk (mask : Nat) (b : Nat × Nat) : Probe := { j := b.1, more := runEnd mask b.1 - b.1, i := b.1, perturb := b.2, dummy := none }
theorem pn_in {mask : Nat} {h : Int} {s : Nat} {b : Nat × Nat} (e : pn mask h s = blk mask b) : ∀ d, d ≤ runEnd mask b.1 - b.1 → pn mask h (s + d) = { j := b.1 + d, more := runEnd mask b.1 - b.1 - d, i := b.1, perturb := b.2, dummy := none }
  | 0, _ => by rw [Nat.add_zero, e]; rfl
  | d + 1, hd => by
    show adv mask (pn mask h (s + d)) = _
    rw [pn_in e d (by omega)]
    unfold adv
    rw [if_pos (by show runEnd mask b.1 - b.1 - d > 0; omega)]
    simp only [Probe.mk.injEq, and_true]
    exact ⟨by omega, by omega⟩
theorem pn_ss (mask : Nat) (h : Int) : ∀ n, pn mask h (ss mask h n) = blk mask (bl mask h n)
  | 0 => rfl
  | n + 1 => by
    have e := pn_in (pn_ss mask h n) (runEnd mask (bl mask h n).1 - (bl mask h n).1) (Nat.le_refl _)
    show adv mask (pn mask h (ss mask h n + (runEnd mask (bl mask h n).1 - (bl mask h n).1))) = _
    rw [e]
    unfold adv
    rw [if_neg (by show ¬ (runEnd mask (bl mask h n).1 - (bl mask h n).1 - (runEnd mask (bl mask h n).1 - (bl mask h n).1)) > 0; omega)]
    rfl
theorem runEnd_le (mask i : Nat) : runEnd mask i - i ≤ 9 := by unfold runEnd; split <;> omega
theorem ss_le (mask : Nat) (h : Int) : ∀ n, ss mask h n ≤ 10 * n
  | 0 => Nat.le_refl _
  | n + 1 => by have := ss_le mask h n; have := runEnd_le mask (bl mask h n).1; show ss mask h n + _ + 1 ≤ _; omega
theorem bl_per (mask : Nat) (h : Int) : ∀ n, (bl mask h n).2 = bits h / 32 ^ n
  | 0 => by show bits h = _; simp
  | n + 1 => by show (bl mask h n).2 / 32 = _; rw [bl_per mask h n, Nat.div_div_eq_div_mul, Nat.pow_succ]
theorem bits_lt (h : Int) : bits h < 2 ^ 64 := by
  unfold bits
  have h1 := Int.emod_nonneg h (show (2 ^ 64 : Int) ≠ 0 by decide)
  have h2 := Int.emod_lt_of_pos h (show (0 : Int) < 2 ^ 64 by decide)
  omega
theorem bl_zero (mask : Nat) (h : Int) (n : Nat) : (bl mask h (13 + n)).2 = 0 := by
  rw [bl_per]
  apply Nat.div_eq_of_lt
  have := bits_lt h
  have e : 2 ^ 65 ≤ 32 ^ (13 + n) := by
    rw [Nat.pow_add, show (32 : Nat) ^ 13 = 2 ^ 65 by decide]
    exact Nat.le_mul_of_pos_right _ (Nat.pow_pos (by decide))
  have : (2 : Nat) ^ 64 < 2 ^ 65 := by decide
  omega
theorem bl_lt (mask : Nat) (h : Int) : ∀ n, (bl mask h n).1 ≤ mask
  | 0 => by have := Nat.mod_lt (bits h) (show 0 < mask + 1 by omega); show bits h % (mask + 1) ≤ mask; omega
  | n + 1 => by have := Nat.mod_lt ((bl mask h n).1 * 5 + 1 + (bl mask h n).2 / 32) (show 0 < mask + 1 by omega); show ((bl mask h n).1 * 5 + 1 + (bl mask h n).2 / 32) % (mask + 1) ≤ mask; omega
theorem bl_F (mask : Nat) (h : Int) : ∀ n, (bl mask h (13 + n)).1 = F n (bl mask h 13).1 % (mask + 1)
  | 0 => by have := bl_lt mask h 13; exact (Nat.mod_eq_of_lt (by show (bl mask h 13).1 < mask + 1; omega)).symm
  | n + 1 => by
    show ((bl mask h (13 + n)).1 * 5 + 1 + (bl mask h (13 + n)).2 / 32) % (mask + 1) = (5 * F n _ + 1) % (mask + 1)
    rw [bl_F mask h n, bl_zero, Nat.zero_div, Nat.add_zero, Nat.mul_comm (F n _ % (mask + 1)) 5]
    rw [Nat.add_mod, Nat.mul_mod, Nat.mod_mod, ← Nat.mul_mod, ← Nat.add_mod]
theorem reach {mask k : Nat} (hk : mask + 1 = 2 ^ k) (h : Int) {e : Nat} (he : e ≤ mask) : ∃ n, n < mask + 14 ∧ (bl mask h n).1 = e := by
  obtain ⟨n, hn, hf⟩ := F_surj k (bl mask h 13).1 e
  refine ⟨13 + n, by omega, ?_⟩
  rw [bl_F, hk, hf, ← hk]
  exact Nat.mod_eq_of_lt (by omega)
theorem runEnd_in {mask i : Nat} (h : i ≤ mask) : runEnd mask i ≤ mask := by unfold runEnd; split <;> omega
theorem pn_le (mask : Nat) (h : Int) (n : Nat) : (pn mask h n).j ≤ mask ∧ (pn mask h n).j + (pn mask h n).more ≤ mask ∧ (pn mask h n).dummy = none := by
  induction n with
  | zero =>
    have h1 : bits h % (mask + 1) ≤ mask := by have := Nat.mod_lt (bits h) (show 0 < mask + 1 by omega); omega
    have h2 := runEnd_in h1
    refine ⟨h1, ?_, rfl⟩
    show bits h % (mask + 1) + (runEnd mask (bits h % (mask + 1)) - bits h % (mask + 1)) ≤ mask
    omega
  | succ n ih =>
    obtain ⟨i1, i2, i3⟩ := ih
    show (adv mask (pn mask h n)).j ≤ mask ∧ (adv mask (pn mask h n)).j + (adv mask (pn mask h n)).more ≤ mask ∧ (adv mask (pn mask h n)).dummy = none
    unfold adv
    by_cases hm : (pn mask h n).more > 0
    · rw [if_pos hm]
      exact ⟨by show (pn mask h n).j + 1 ≤ mask; omega, by show (pn mask h n).j + 1 + ((pn mask h n).more - 1) ≤ mask; omega, i3⟩
    · rw [if_neg hm]
      have h1 : (leap mask (pn mask h n).i (pn mask h n).perturb).1 ≤ mask := by
        have := Nat.mod_lt ((pn mask h n).i * 5 + 1 + (pn mask h n).perturb / 32) (show 0 < mask + 1 by omega)
        show ((pn mask h n).i * 5 + 1 + (pn mask h n).perturb / 32) % (mask + 1) ≤ mask
        omega
      have h2 := runEnd_in h1
      exact ⟨h1, by show (leap mask (pn mask h n).i (pn mask h n).perturb).1 + (runEnd mask (leap mask (pn mask h n).i (pn mask h n).perturb).1 - (leap mask (pn mask h n).i (pn mask h n).perturb).1) ≤ mask; omega, i3⟩
end TS
namespace TS
open PySem PySem.SetTable
noncomputable def Ris (xs : Array Nat) : Prop := ∀ i j, i < j → j < xs.size → xs.getD i 0 < xs.getD j 0
theorem get_getD {xs : Array Nat} {i j : Nat} (h : xs[i]? = some j) (d : Nat) : i < xs.size ∧ xs.getD i d = j := by
  obtain ⟨h1, h2⟩ := Array.getElem?_eq_some_iff.mp h
  exact ⟨h1, by simp [Array.getD, h1, h2]⟩
noncomputable def In (t : SetTable) (j : Nat) : Prop := ∃ i : Nat, t.place[i]? = some j
structure TOk (t : SetTable) (es : Array (Int × Value)) : Prop where
  dm : t.dummies = #[]
  sz : t.place.size = es.size
  pw : ∃ k, t.mask + 1 = 2 ^ k ∧ 3 ≤ k
  ris : Ris t.place
  le : ∀ j, In t j → j ≤ t.mask
  ro : es.size * 5 < t.mask * 3
  sm : t.mask < 8192
  pr : ∀ (i : Nat) (h : Int) (v : Value), es[i]? = some (h, v) → ∃ n, t.place[i]? = some (pn t.mask h n).j ∧ ∀ m, m < n → In t (pn t.mask h m).j
theorem pigeon : ∀ (n : Nat) (f : Nat → Option Nat) , (∀ j, j < n + 1 → ∃ i, f j = some i ∧ i < n) → (∀ j j' i, j < n + 1 → j' < n + 1 → f j = some i → f j' = some i → j = j') → False
  | 0, f, h, _ => by obtain ⟨i, _, hi⟩ := h 0 (by omega); omega
  | n + 1, f, h, inj => by
    obtain ⟨a, ha, hal⟩ := h (n + 1) (by omega)
    refine pigeon n (fun j => (f j).map fun i => if i = n then a else i) (fun j hj => ?_) fun j j' i l1 l2 h1 h2 => ?_
    · obtain ⟨i, hi, hil⟩ := h j (by omega)
      refine ⟨if i = n then a else i, by simp [hi], ?_⟩
      split
      · rename_i e
        rcases Nat.lt_or_ge a n with h' | h'
        · exact h'
        · have : a = n := by omega
          have := inj (n + 1) j n (by omega) (by omega) (by rw [ha, this]) (by rw [hi, e])
          omega
      · omega
    · cases e1 : f j with
      | none => rw [e1] at h1; cases h1
      | some i1 =>
        cases e2 : f j' with
        | none => rw [e2] at h2; cases h2
        | some i2 =>
          rw [e1] at h1; rw [e2] at h2
          have h1 : (if i1 = n then a else i1) = i := by simpa using h1
          have h2 : (if i2 = n then a else i2) = i := by simpa using h2
          by_cases c1 : i1 = n <;> by_cases c2 : i2 = n
          · exact inj j j' n (by omega) (by omega) (by rw [e1, c1]) (by rw [e2, c2])
          · rw [if_pos c1] at h1; rw [if_neg c2] at h2
            have := inj (n + 1) j' i (by omega) (by omega) (by rw [ha, h1]) (by rw [e2, h2])
            omega
          · rw [if_neg c1] at h1; rw [if_pos c2] at h2
            have := inj (n + 1) j i (by omega) (by omega) (by rw [ha, h2]) (by rw [e1, h1])
            omega
          · rw [if_neg c1] at h1; rw [if_neg c2] at h2
            exact inj j j' i (by omega) (by omega) (by rw [e1, h1]) (by rw [e2, h2])
theorem first_empty {mask k : Nat} (hk : mask + 1 = 2 ^ k) (h : Int) (P : Nat → Prop) [DecidablePred P] {e : Nat} (he : e ≤ mask) (hP : ¬ P e) :
    ∃ N b, N ≤ ss mask h b ∧ b < mask + 14 ∧ ¬ P (pn mask h N).j ∧ ∀ m, m < N → P (pn mask h m).j := by
  obtain ⟨b, hb, hbe⟩ := reach hk h he
  have h0 : ¬ P (pn mask h (ss mask h b)).j := by rw [pn_ss]; show ¬ P (bl mask h b).1; rw [hbe]; exact hP
  have least : ∀ n, ¬ P (pn mask h n).j → ∃ N, N ≤ n ∧ ¬ P (pn mask h N).j ∧ ∀ m, m < N → P (pn mask h m).j := by
    intro n
    induction n using Nat.strongRecOn with
    | _ n ih =>
      intro hn
      by_cases c : ∃ m, m < n ∧ ¬ P (pn mask h m).j
      · obtain ⟨m, hm, hp⟩ := c
        obtain ⟨N, h1, h2⟩ := ih m hm hp
        exact ⟨N, by omega, h2⟩
      · exact ⟨n, Nat.le_refl _, hn, fun m hm => Decidable.byContradiction fun z => c ⟨m, hm, z⟩⟩
  obtain ⟨N, h1, h2, h3⟩ := least _ h0
  exact ⟨N, b, h1, hb, h2, h3⟩
open Classical in
theorem TOk.empty {t : SetTable} {es : Array (Int × Value)} (k : TOk t es) (h : Int) : ∃ N, N < 10 * (t.mask + 14) ∧ ¬ In t (pn t.mask h N).j ∧ ∀ m, m < N → In t (pn t.mask h m).j := by
  obtain ⟨n, h1, h2⟩ := k.pw
  have ex : ∃ e, e ≤ t.mask ∧ ¬ In t e := by
    refine Classical.byContradiction fun hc => ?_
    have all : ∀ e, e ≤ t.mask → In t e := fun e he => Classical.byContradiction fun z => hc ⟨e, he, z⟩
    refine pigeon t.mask (fun j => if hj : In t j then some hj.choose else none) (fun j hj => ?_) fun j j' i _ _ e1 e2 => ?_
    · have hi := all j (by omega)
      refine ⟨hi.choose, dif_pos hi, ?_⟩
      have := (get_getD hi.choose_spec 0).1
      have := k.sz; have := k.ro
      omega
    · split at e1
      · rename_i hj
        split at e2
        · rename_i hj'
          have q1 := hj.choose_spec
          have q2 := hj'.choose_spec
          rw [Option.some.inj e1] at q1
          rw [Option.some.inj e2] at q2
          rw [q1] at q2
          exact Option.some.inj q2
        · cases e2
      · cases e1
  obtain ⟨e, he, hne⟩ := ex
  obtain ⟨N, b, h3, h4, h5, h6⟩ := first_empty h1 h (In t) he hne
  have := ss_le t.mask h b
  exact ⟨N, by omega, h5, h6⟩
end TS
namespace TS
open PySem PySem.SetTable
theorem TOk.plain {t : SetTable} {es : Array (Int × Value)} (k : TOk t es) (b : Bool) : TOk { t with plain := b } es := ⟨k.dm, k.sz, k.pw, k.ris, k.le, k.ro, k.sm, k.pr⟩
noncomputable def Occ (ow : Array (Option Nat)) (j : Nat) : Prop := ∃ i, ow[j]? = some (some i)
instance (ow : Array (Option Nat)) : DecidablePred (Occ ow) := fun j => match h : ow[j]? with
  | some (some i) => .isTrue ⟨i, h⟩
  | some none => .isFalse fun hx1_ => by obtain ⟨i, z⟩ := hx1_; rw [h] at z; cases z
  | none => .isFalse fun hx2_ => by obtain ⟨i, z⟩ := hx2_; rw [h] at z; cases z
theorem occ_getD {ow : Array (Option Nat)} {j : Nat} (hj : j < ow.size) : (ow.getD j (some 0)).isNone = !decide (Occ ow j) := by
  have e : ow[j]? = some ow[j] := Array.getElem?_eq_getElem hj
  have e2 : ow.getD j (some 0) = ow[j] := by simp [Array.getD, hj]
  rw [e2]
  cases c : ow[j] with
  | none =>
    rw [decide_eq_false (fun hx3_ => by obtain ⟨i, z⟩ := hx3_; rw [e, c] at z; cases z)]; rfl
  | some i =>
    rw [decide_eq_true (show Occ ow j from ⟨i, by rw [e, c]⟩)]; rfl
theorem find_range {P : Nat → Bool} : ∀ (n d : Nat), d < n → P d = true → (∀ k, k < d → P k = false) → (List.range n).find? P = some d := by
  intro n d hd hp hb
  rw [List.find?_range_eq_some]
  exact ⟨hp, by simpa using hd, fun j hj => by simpa using hb j hj⟩
theorem free_ok {mask : Nat} {h : Int} {ow : Array (Option Nat)} (hs : ow.size = mask + 1) {N b : Nat} (hN : ¬ Occ ow (pn mask h N).j) (hl : ∀ m, m < N → Occ ow (pn mask h m).j) (hb : N ≤ ss mask h b) :
    ∀ (fuel n : Nat), n ≤ b → b - n < fuel → ss mask h n ≤ N → layClean.free mask ow fuel (bl mask h n).1 (bl mask h n).2 = some (pn mask h N).j := by
  intro fuel
  induction fuel with
  | zero => intro n h1 h2; omega
  | succ fuel ih =>
    intro n h1 h2 h3
    have hil := bl_lt mask h n
    have hre : (bl mask h n).1 ≤ runEnd mask (bl mask h n).1 := by unfold runEnd; split <;> omega
    have hrm := runEnd_in hil
    have at' : ∀ d, d ≤ runEnd mask (bl mask h n).1 - (bl mask h n).1 → (pn mask h (ss mask h n + d)).j = (bl mask h n).1 + d := fun d hd => by rw [pn_in (pn_ss mask h n) d hd]
    unfold layClean.free
    by_cases c : N - ss mask h n ≤ runEnd mask (bl mask h n).1 - (bl mask h n).1
    · have e := at' _ c
      rw [show ss mask h n + (N - ss mask h n) = N by omega] at e
      rw [find_range _ (N - ss mask h n) (by omega) (by rw [occ_getD (by omega), ← e, decide_eq_false hN]; rfl) fun k hk => by
        rw [occ_getD (by omega), ← at' k (by omega), decide_eq_true (hl _ (by omega))]; rfl]
      rw [e]
    · have hn : (List.range (runEnd mask (bl mask h n).1 + 1 - (bl mask h n).1)).find? (fun k => (ow.getD ((bl mask h n).1 + k) (some 0)).isNone) = none := by
        rw [List.find?_eq_none]
        intro k hk
        have hk := List.mem_range.mp hk
        rw [occ_getD (by omega), ← at' k (by omega), decide_eq_true (hl _ (by omega))]
        simp
      rw [hn]
      show layClean.free mask ow fuel (bl mask h (n + 1)).1 (bl mask h (n + 1)).2 = _
      have hnb : n ≠ b := fun e => by subst e; omega
      exact ih (n + 1) (by omega) (by omega) (by show ss mask h n + _ + 1 ≤ N; omega)
structure Own (mask : Nat) (ow : Array (Option Nat)) (hs : List Int) : Prop where
  size : ow.size = mask + 1
  pr : ∀ (j i : Nat), ow[j]? = some (some i) → ∃ h, hs[i]? = some h ∧ ∃ n, (pn mask h n).j = j ∧ ∀ m, m < n → Occ ow (pn mask h m).j
  all : ∀ i, i < hs.length → ∃ j : Nat, ow[j]? = some (some i)
  inj : ∀ (j j' i : Nat), ow[j]? = some (some i) → ow[j']? = some (some i) → j = j'
theorem set_get {ow : Array (Option Nat)} {j i : Nat} {x : Option Nat} (hj : j < ow.size) : (ow.setIfInBounds j x)[i]? = if i = j then some x else ow[i]? := by
  rw [Array.getElem?_setIfInBounds]
  by_cases c : j = i
  · subst c; simp [hj]
  · rw [if_neg c, if_neg (fun e => c e.symm)]
theorem Own.step {mask k : Nat} (hk : mask + 1 = 2 ^ k) {ow : Array (Option Nat)} {hs : List Int} (o : Own mask ow hs) (h : Int) (hl : hs.length < mask + 1) :
    ∃ j, layClean.free mask ow (turns mask) (bits h % (mask + 1)) (bits h) = some j ∧ Own mask (ow.setIfInBounds j (some hs.length)) (hs ++ [h]) := by
  have ex : ∃ e, e ≤ mask ∧ ¬ Occ ow e := by
    refine Decidable.byContradiction fun hc => ?_
    have all : ∀ e, e ≤ mask → Occ ow e := fun e he => Decidable.byContradiction fun z => hc ⟨e, he, z⟩
    refine pigeon mask (fun j => (ow[j]?).join) (fun j hj => ?_) fun j j' i l1 l2 e1 e2 => ?_
    · obtain ⟨i, hi⟩ := all j (by omega)
      obtain ⟨h', e1, _⟩ := o.pr j i hi
      have := (List.getElem?_eq_some_iff.mp e1).1
      exact ⟨i, by rw [hi]; rfl, by omega⟩
    · obtain ⟨i1, q1⟩ := all j (by omega)
      obtain ⟨i2, q2⟩ := all j' (by omega)
      rw [q1] at e1; rw [q2] at e2
      cases e1; cases e2
      exact o.inj j j' i q1 q2
  obtain ⟨e, he, hne⟩ := ex
  obtain ⟨N, b, h3, h4, h5, h6⟩ := first_empty hk h (Occ ow) he hne
  have hj := (pn_le mask h N).1
  have hjs : (pn mask h N).j < ow.size := by rw [o.size]; omega
  refine ⟨(pn mask h N).j, free_ok o.size h5 h6 h3 _ 0 (Nat.zero_le _) (by unfold turns; omega) (Nat.zero_le _), ?_⟩
  have up : ∀ x, Occ ow x → Occ (ow.setIfInBounds (pn mask h N).j (some hs.length)) x := fun x hx4_ => by
    obtain ⟨i, hi⟩ := hx4_
    by_cases c : x = (pn mask h N).j
    · exact ⟨hs.length, by rw [set_get hjs, if_pos c]⟩
    · exact ⟨i, by rw [set_get hjs, if_neg c]; exact hi⟩
  refine ⟨by simp [o.size], fun j i hi => ?_, fun i hi => ?_, fun j j' i q1 q2 => ?_⟩
  · rw [set_get hjs] at hi
    split at hi
    · rename_i c
      cases hi
      exact ⟨h, by simp, N, c.symm, fun m hm => up _ (h6 m hm)⟩
    · obtain ⟨h', e1, n, e2, e3⟩ := o.pr j i hi
      refine ⟨h', ?_, n, e2, fun m hm => up _ (e3 m hm)⟩
      rw [List.getElem?_append_left (List.getElem?_eq_some_iff.mp e1).1]; exact e1
  · rw [List.length_append, List.length_singleton] at hi
    by_cases c : i = hs.length
    · exact ⟨(pn mask h N).j, by rw [set_get hjs, if_pos rfl, c]⟩
    · obtain ⟨j, hj⟩ := o.all i (by omega)
      refine ⟨j, ?_⟩
      rw [set_get hjs, if_neg (fun (e : j = (pn mask h N).j) => h5 (by rw [← e]; exact ⟨i, hj⟩))]; exact hj
  · rw [set_get hjs] at q1 q2
    have lt : ∀ x, ow[x]? = some (some i) → i < hs.length := fun x hx => let ⟨_, e, _⟩ := o.pr x i hx; (List.getElem?_eq_some_iff.mp e).1
    split at q1
    · rename_i c1
      split at q2
      · rename_i c2; rw [c1, c2]
      · cases q1; have := lt _ q2; omega
    · split at q2
      · cases q2; have := lt _ q1; omega
      · exact o.inj j j' i q1 q2
end TS
namespace TS
open PySem PySem.SetTable
end TS
namespace TS
open PySem PySem.SetTable
noncomputable def hashI (ks : List Int) : Int := reduceHash (Builtin.Tuple.tupleHashOf (ks.map hashInt))
section
variable {prog : Program} {w : World} {A : Around} {E : Value → Shared → Prop} {s : Shared}
theorem items_int {ks : List Int} {vs : List Value} (h : ItemsAre (intKind prog w) ks vs) : ∀ v ∈ vs, ∃ i t, v = .int i t := by
  induction h with
  | nil => intro v hv; simp at hv
  | cons h1 _ ih =>
    intro v hv
    rcases List.mem_cons.mp hv with rfl | hv
    · obtain ⟨t, rfl⟩ := Value.isInt_shape h1
      exact ⟨_, t, rfl⟩
    · exact ih v hv
structure Els (es : Array (Int × Value)) (xs : List (List Int × Addr)) : Prop where
  sub : ∀ e ∈ es.toList, ∃ p ∈ xs, e = (hashI p.1, .ref p.2)
  sup : ∀ p ∈ xs, (hashI p.1, Value.ref p.2) ∈ es.toList
  len : es.size = xs.length
end
end TS
namespace TS
open PySem PySem.SetTable
noncomputable def TObj (o : Obj) (xs : List (List Int × Addr)) : Prop := o.ExactSet ∧ ∃ es ep t, o.data = .set es ep t ∧ TOk t es ∧ Els es xs
noncomputable def TSet (a : Addr) (xs : List (List Int × Addr)) (h : Heap) : Prop := ∃ o, h.get? a = some o ∧ TObj o xs
section
variable {prog : Program} {w : World} {A : Around} {E : Value → Shared → Prop} {s : Shared} {a x : Addr} {k : List Int} {xs : List (List Int × Addr)}
theorem TSet.typeIs (h : TSet a xs s.heap) : s.TypeIs (.ref a) "set" := let ⟨o, ho, hc, _⟩ := h; ⟨o, ho, hc.1⟩
end
end TS
namespace BF
noncomputable def lx : List Nat → List Nat → Prop
  | a :: u, b :: v => a < b ∨ (a = b ∧ lx u v)
  | _, _ => False
noncomputable def sl (u v : List Nat) : Prop := u.length < v.length ∨ (u.length = v.length ∧ lx u v)
noncomputable def le (u v : List Nat) : Prop := sl u v ∨ u = v
theorem lx_trans : ∀ {u v w}, lx u v → lx v w → lx u w
  | [], _, _, h, _ => h.elim
  | _ :: _, [], _, h, _ => h.elim
  | _ :: _, _ :: _, [], _, h => h.elim
  | a :: u, b :: v, c :: w, h, g => by
    rcases h with h | ⟨h, h'⟩ <;> rcases g with g | ⟨g, g'⟩
    · exact .inl (by omega)
    · exact .inl (by omega)
    · exact .inl (by omega)
    · exact .inr ⟨by omega, lx_trans h' g'⟩
theorem sl_trans {u v w : List Nat} (h : sl u v) (g : sl v w) : sl u w := by
  rcases h with h | ⟨h, h'⟩ <;> rcases g with g | ⟨g, g'⟩
  · exact .inl (by omega)
  · exact .inl (by omega)
  · exact .inl (by omega)
  · exact .inr ⟨by omega, lx_trans h' g'⟩
theorem sl_le {u v w : List Nat} (h : sl u v) (g : le v w) : sl u w := by
  rcases g with g | rfl
  · exact sl_trans h g
  · exact h
theorem le_trans {u v w : List Nat} (h : le u v) (g : le v w) : le u w := by
  rcases h with h | rfl
  · exact .inl (sl_le h g)
  · exact g
theorem lx_app : ∀ {u v : List Nat} (c d : Nat), u.length = v.length → lx u v → lx (u ++ [c]) (v ++ [d])
  | [], _, _, _, _, h => h.elim
  | _ :: _, [], _, _, _, h => h.elim
  | a :: u, b :: v, c, d, hl, h => by
    rcases h with h | ⟨h, h'⟩
    · exact .inl h
    · exact .inr ⟨h, lx_app c d (by simpa using hl) h'⟩
theorem sl_app {u v : List Nat} (c d : Nat) (h : sl u v) : sl (u ++ [c]) (v ++ [d]) := by
  rcases h with h | ⟨h, h'⟩
  · exact .inl (by simpa using h)
  · exact .inr ⟨by simpa using h, lx_app c d h h'⟩
theorem lx_last : ∀ (u : List Nat) {c d : Nat}, c < d → lx (u ++ [c]) (u ++ [d])
  | [], _, _, h => .inl h
  | _ :: u, _, _, h => .inr ⟨rfl, lx_last u h⟩
theorem sl_last (u : List Nat) {c d : Nat} (h : c < d) : sl (u ++ [c]) (u ++ [d]) := .inr ⟨by simp, lx_last u h⟩
theorem le_app {u v : List Nat} (a : Nat) (h : le u v) : le (u ++ [a]) (v ++ [a]) := by
  rcases h with h | rfl
  · exact .inl (sl_app a a h)
  · exact .inr rfl
noncomputable abbrev P := Nat × Nat
section
variable (A : Nat) (step : P → Nat → Option P) (fail : P → Nat → Bool)
noncomputable def walk : P → List Nat → Option P
  | p, [] => some p
  | p, a :: w => (step p a).bind fun q => walk q w
noncomputable def Fails (p : P) (w : List Nat) : Prop := ∃ u b q, w = u ++ [b] ∧ b < A ∧ (∀ a ∈ u, a < A) ∧ walk step p u = some q ∧ fail q b = true
noncomputable def Least (p : P) (w : List Nat) : Prop := Fails A step fail p w ∧ ∀ v, Fails A step fail p v → ¬ sl v w
end
section
variable {A : Nat} {step : P → Nat → Option P} {fail : P → Nat → Bool}
theorem walk_snoc : ∀ (p : P) (u : List Nat) (a : Nat), walk step p (u ++ [a]) = (walk step p u).bind fun q => step q a
  | p, [], a => by show (step p a).bind _ = step p a; cases step p a <;> rfl
  | p, b :: u, a => by
    show (step p b).bind _ = ((step p b).bind _).bind _
    cases step p b with
    | none => rfl
    | some q => exact walk_snoc q u a
structure Bf (A : Nat) (step : P → Nat → Option P) (fail : P → Nat → Bool) (p0 : P) (ps : List P) (ws : List (List Nat)) (i c : Nat) : Prop where
  len : ws.length = ps.length
  z : ps[0]? = some p0 ∧ ws[0]? = some []
  wk : ∀ (k : Nat) q w, ps[k]? = some q → ws[k]? = some w → walk step p0 w = some q ∧ ∀ a ∈ w, a < A
  inc : ∀ (k l : Nat) u v, k < l → ws[k]? = some u → ws[l]? = some v → sl u v
  cl : ∀ (k : Nat) q w a q', ((k < i ∧ a < A) ∨ (k = i ∧ a < c)) → ps[k]? = some q → ws[k]? = some w → step q a = some q' → ∃ (l : Nat) (u : List Nat), ps[l]? = some q' ∧ ws[l]? = some u ∧ le u (w ++ [a])
  nf : ∀ (k : Nat) q a, ((k < i ∧ a < A) ∨ (k = i ∧ a < c)) → ps[k]? = some q → fail q a = false
  top : ∀ (k : Nat) w u, ws[k]? = some w → ws[i]? = some u → sl w (u ++ [c])
  nd : ps.Nodup
theorem Bf.start (p0 : P) : Bf A step fail p0 [p0] [[]] 0 0 := by
  have one : ∀ (k : Nat) w, ([[]] : List (List Nat))[k]? = some w → k = 0 ∧ w = [] := fun k w h => by
    cases k with
    | zero => exact ⟨rfl, by simpa using h.symm⟩
    | succ k => simp at h
  refine ⟨rfl, ⟨rfl, rfl⟩, fun k q w h1 h2 => ?_, fun k l u v hkl h1 h2 => ?_, fun k q w a q' h => ?_, fun k q a h => ?_, fun k w u h1 h2 => ?_, by simp⟩
  · obtain ⟨rfl, rfl⟩ := one k w h2
    have : p0 = q := by simpa using h1
    subst this
    exact ⟨rfl, fun a ha => by simp at ha⟩
  · have := (one k u h1).1; have := (one l v h2).1; omega
  · omega
  · omega
  · obtain ⟨rfl, rfl⟩ := one k w h1
    obtain ⟨_, rfl⟩ := one 0 u h2
    exact .inl (by simp)
section
variable {p0 q q' : P} {ps : List P} {ws : List (List Nat)} {w : List Nat} {i c : Nat}
theorem get_snoc {α : Type} {l : List α} {x y : α} {k : Nat} (h : (l ++ [x])[k]? = some y) : l[k]? = some y ∨ (k = l.length ∧ y = x) := by
  rcases Nat.lt_trichotomy k l.length with hk | hk | hk
  · rw [List.getElem?_append_left hk] at h; exact .inl h
  · subst hk; rw [List.getElem?_append_right (Nat.le_refl _)] at h; exact .inr ⟨rfl, by simpa using h.symm⟩
  · rw [List.getElem?_eq_none (by simp; omega)] at h; cases h
theorem get_left {α : Type} {l : List α} {x y : α} {k : Nat} (h : l[k]? = some y) : (l ++ [x])[k]? = some y := by
  rw [List.getElem?_append_left (List.getElem?_eq_some_iff.mp h).1]; exact h
theorem Bf.push (b : Bf A step fail p0 ps ws i c) (hc : c < A) (hq : ps[i]? = some q) (hw : ws[i]? = some w) (hf : fail q c = false) (hs : step q c = some q') (hn : q' ∉ ps) : Bf A step fail p0 (ps ++ [q']) (ws ++ [w ++ [c]]) i (c + 1) := by
  have hiL := (List.getElem?_eq_some_iff.mp hq).1
  refine ⟨by simp [b.len], ⟨get_left b.z.1, get_left b.z.2⟩, fun k r u h1 h2 => ?_, fun k l u v hkl h1 h2 => ?_, fun k r u a r' h h1 h2 h3 => ?_, fun k r a h h1 => ?_, fun k u v h1 h2 => ?_, ?_⟩
  · rcases get_snoc h1 with g1 | ⟨e1, rfl⟩ <;> rcases get_snoc h2 with g2 | ⟨e2, rfl⟩
    · exact b.wk k r u g1 g2
    · have := (List.getElem?_eq_some_iff.mp g1).1; have := b.len; omega
    · have := (List.getElem?_eq_some_iff.mp g2).1; have := b.len; omega
    · obtain ⟨h1, h2⟩ := b.wk i q w hq hw
      refine ⟨by rw [walk_snoc, h1]; exact hs, fun a ha => ?_⟩
      rcases List.mem_append.mp ha with ha | ha
      · exact h2 a ha
      · have : a = c := by simpa using ha
        omega
  · rcases get_snoc h1 with g1 | ⟨e1, rfl⟩ <;> rcases get_snoc h2 with g2 | ⟨e2, rfl⟩
    · exact b.inc k l u v hkl g1 g2
    · exact b.top k u w g1 hw
    · have := (List.getElem?_eq_some_iff.mp g2).1; omega
    · omega
  · have hk : k < ps.length := by omega
    have g1 : ps[k]? = some r := by rw [List.getElem?_append_left hk] at h1; exact h1
    have g2 : ws[k]? = some u := by rw [List.getElem?_append_left (by rw [b.len]; exact hk)] at h2; exact h2
    by_cases hkc : k = i ∧ a = c
    · obtain ⟨rfl, rfl⟩ := hkc
      rw [hq] at g1; cases g1
      rw [hw] at g2; cases g2
      rw [hs] at h3; cases h3
      exact ⟨ps.length, w ++ [a], by rw [List.getElem?_append_right (Nat.le_refl _)]; simp, by rw [← b.len, List.getElem?_append_right (Nat.le_refl _)]; simp, .inr rfl⟩
    · obtain ⟨l, v, e1, e2, e3⟩ := b.cl k r u a r' (by omega) g1 g2 h3
      exact ⟨l, v, get_left e1, get_left e2, e3⟩
  · have hk : k < ps.length := by omega
    have g1 : ps[k]? = some r := by rw [List.getElem?_append_left hk] at h1; exact h1
    by_cases hkc : k = i ∧ a = c
    · obtain ⟨rfl, rfl⟩ := hkc
      rw [hq] at g1; cases g1
      exact hf
    · exact b.nf k r a (by omega) g1
  · have g2 : ws[i]? = some v := by rw [List.getElem?_append_left (by rw [b.len]; exact hiL)] at h2; exact h2
    rw [hw] at g2; cases g2
    rcases get_snoc h1 with g1 | ⟨e1, rfl⟩
    · exact sl_trans (b.top k u w g1 hw) (sl_last w (Nat.lt_succ_self c))
    · exact sl_last w (Nat.lt_succ_self c)
  · rw [List.nodup_append]
    exact ⟨b.nd, by simp, fun x hx y hy => by have : y = q' := by simpa using hy
                                              subst this; exact fun e => hn (e ▸ hx)⟩
theorem Bf.skip (b : Bf A step fail p0 ps ws i c) (hc : c < A) (hq : ps[i]? = some q) (hw : ws[i]? = some w) (hf : fail q c = false) (hs : ∀ q', step q c = some q' → q' ∈ ps) : Bf A step fail p0 ps ws i (c + 1) := by
  refine ⟨b.len, b.z, b.wk, b.inc, fun k r u a r' h h1 h2 h3 => ?_, fun k r a h h1 => ?_, fun k u v h1 h2 => ?_, b.nd⟩
  · by_cases hkc : k = i ∧ a = c
    · obtain ⟨rfl, rfl⟩ := hkc
      rw [hq] at h1; cases h1
      rw [hw] at h2; cases h2
      obtain ⟨l, hl⟩ := List.mem_iff_getElem?.mp (hs r' h3)
      have hll := (List.getElem?_eq_some_iff.mp hl).1
      have hwl : l < ws.length := by rw [b.len]; exact hll
      have hv : ws[l]? = some ws[l] := List.getElem?_eq_getElem hwl
      exact ⟨l, _, hl, hv, .inl (b.top l _ w hv hw)⟩
    · exact b.cl k r u a r' (by omega) h1 h2 h3
  · by_cases hkc : k = i ∧ a = c
    · obtain ⟨rfl, rfl⟩ := hkc
      rw [hq] at h1; cases h1
      exact hf
    · exact b.nf k r a (by omega) h1
  · exact sl_trans (b.top k u v h1 h2) (sl_last v (Nat.lt_succ_self c))
theorem Bf.next (b : Bf A step fail p0 ps ws i A) : Bf A step fail p0 ps ws (i + 1) 0 := by
  refine ⟨b.len, b.z, b.wk, b.inc, fun k r u a r' h h1 h2 h3 => ?_, fun k r a h h1 => ?_, fun k u v h1 h2 => ?_, b.nd⟩
  · exact b.cl k r u a r' (by omega) h1 h2 h3
  · exact b.nf k r a (by omega) h1
  · have hl := (List.getElem?_eq_some_iff.mp h2).1
    have hi : ws[i]? = some ws[i] := List.getElem?_eq_getElem (by omega)
    exact sl_trans (b.top k u _ h1 hi) (sl_app A 0 (b.inc i (i + 1) _ v (by omega) hi h2))
theorem Bf.key (b : Bf A step fail p0 ps ws i c) (u : List Nat) (hu : ∀ a ∈ u, a < A) : ∀ q, walk step p0 u = some q → ∃ u1 u2 k w' q1, u = u1 ++ u2 ∧ ps[k]? = some q1 ∧ ws[k]? = some w' ∧ walk step p0 u1 = some q1 ∧ le w' u1 ∧ ((u2 = [] ∧ q1 = q) ∨ i ≤ k) := by
  have gen : ∀ (n : Nat) (u : List Nat), u.length = n → (∀ a ∈ u, a < A) → ∀ q, walk step p0 u = some q → ∃ u1 u2 k w' q1, u = u1 ++ u2 ∧ ps[k]? = some q1 ∧ ws[k]? = some w' ∧ walk step p0 u1 = some q1 ∧ le w' u1 ∧ ((u2 = [] ∧ q1 = q) ∨ i ≤ k) := by
    intro n
    induction n with
    | zero =>
      intro u hl hu q hq
      have : u = [] := List.length_eq_zero_iff.mp hl
      subst this
      cases hq
      exact ⟨[], [], 0, [], p0, rfl, b.z.1, b.z.2, rfl, .inr rfl, .inl ⟨rfl, rfl⟩⟩
    | succ n ih =>
      intro u hl hu q hq
      obtain ⟨u', a, rfl⟩ : ∃ u' a, u = u' ++ [a] := by
        have hne : u ≠ [] := fun e => by subst e; simp at hl
        exact ⟨u.dropLast, u.getLast hne, (List.dropLast_concat_getLast hne).symm⟩
      rw [walk_snoc] at hq
      cases hq' : walk step p0 u' with
      | none => rw [hq'] at hq; cases hq
      | some q1 =>
        rw [hq'] at hq
        have hq : step q1 a = some q := hq
        obtain ⟨u1, u2, k, w', q2, e0, e1, e2, e3, e4, e5⟩ := ih u' (by simpa using hl) (fun x hx => hu x (List.mem_append_left _ hx)) q1 hq'
        by_cases hk : i ≤ k
        · exact ⟨u1, u2 ++ [a], k, w', q2, by rw [e0, List.append_assoc], e1, e2, e3, e4, .inr hk⟩
        · rcases e5 with ⟨rfl, rfl⟩ | e5
          · rw [List.append_nil] at e0
            subst e0
            obtain ⟨l, v, g1, g2, g3⟩ := b.cl k q2 w' a q (.inl ⟨by omega, hu a (by simp)⟩) e1 e2 hq
            exact ⟨u' ++ [a], [], l, v, q, by simp, g1, g2, by rw [walk_snoc, hq']; exact hq, le_trans g3 (le_app a e4), .inl ⟨rfl, rfl⟩⟩
          · exact absurd e5 hk
  exact gen u.length u rfl hu
theorem Bf.none (b : Bf A step fail p0 ps ws ps.length 0) : ∀ v, ¬ Fails A step fail p0 v := by
  rintro v ⟨u, d, r, rfl, hd, hu, hr, hfr⟩
  obtain ⟨u1, u2, k, w', q1, e0, e1, e2, e3, e4, e5⟩ := b.key u hu r hr
  have hk := (List.getElem?_eq_some_iff.mp e1).1
  rcases e5 with ⟨rfl, rfl⟩ | e5
  · have := b.nf k q1 d (.inl ⟨hk, hd⟩) e1
    rw [hfr] at this; cases this
  · omega
end
noncomputable def Fn (A : Nat) (step : P → Nat → Option P) (fail : P → Nat → Bool) (n : Nat) (p : P) : Prop := ∃ w, Fails A step fail p w ∧ w.length = n
noncomputable def Ds (A : Nat) (step : P → Nat → Option P) (fail : P → Nat → Bool) (p : P) (n : Nat) : Prop := Fn A step fail n p ∧ ∀ m, m < n → ¬ Fn A step fail m p
theorem fails_cons {p q : P} {a : Nat} {w : List Nat} (ha : a < A) (hs : step p a = some q) (h : Fails A step fail q w) : Fails A step fail p (a :: w) := by
  obtain ⟨u, b, r, rfl, h1, h2, h3, h4⟩ := h
  refine ⟨a :: u, b, r, rfl, h1, fun x hx => ?_, by show (step p a).bind _ = _; rw [hs]; exact h3, h4⟩
  rcases List.mem_cons.mp hx with rfl | hx
  · exact ha
  · exact h2 x hx
theorem fails_inv {p : P} {a : Nat} {w : List Nat} (h : Fails A step fail p (a :: w)) : (w = [] ∧ a < A ∧ fail p a = true) ∨ ∃ q, a < A ∧ step p a = some q ∧ Fails A step fail q w := by
  obtain ⟨u, b, r, e, h1, h2, h3, h4⟩ := h
  cases u with
  | nil =>
    cases e
    cases h3
    exact .inl ⟨rfl, h1, h4⟩
  | cons x u =>
    cases e
    cases hs : step p a with
    | none => rw [show walk step p (a :: u) = (step p a).bind _ from rfl, hs] at h3; cases h3
    | some q =>
      rw [show walk step p (a :: u) = (step p a).bind _ from rfl, hs] at h3
      exact .inr ⟨q, h2 a (by simp), rfl, u, b, r, rfl, h1, fun x hx => h2 x (by simp [hx]), h3, h4⟩
theorem fails_ne {p : P} : ¬ Fails A step fail p [] := by
  rintro ⟨u, b, r, e, _⟩
  simp at e
theorem Fn.one {p : P} : Fn A step fail 1 p ↔ ∃ a, a < A ∧ fail p a = true := by
  constructor
  · rintro ⟨w, h, hl⟩
    cases w with
    | nil => simp at hl
    | cons a w =>
      have : w = [] := List.length_eq_zero_iff.mp (by simpa using hl)
      subst this
      rcases fails_inv h with ⟨_, h1, h2⟩ | ⟨q, _, _, h3⟩
      · exact ⟨a, h1, h2⟩
      · exact absurd h3 fails_ne
  · rintro ⟨a, h1, h2⟩
    exact ⟨[a], ⟨[], a, p, rfl, h1, fun x hx => by simp at hx, rfl, h2⟩, rfl⟩
theorem Fn.zero {p : P} : ¬ Fn A step fail 0 p := by
  rintro ⟨w, h, hl⟩
  have : w = [] := List.length_eq_zero_iff.mp hl
  subst this
  exact fails_ne h
theorem Fn.succ {p : P} {n : Nat} : Fn A step fail (n + 2) p ↔ ∃ a q, a < A ∧ step p a = some q ∧ Fn A step fail (n + 1) q := by
  constructor
  · rintro ⟨w, h, hl⟩
    cases w with
    | nil => simp at hl
    | cons a w =>
      rcases fails_inv h with ⟨e, _⟩ | ⟨q, h1, h2, h3⟩
      · subst e; simp at hl
      · exact ⟨a, q, h1, h2, w, h3, by simpa using hl⟩
  · rintro ⟨a, q, h1, h2, w, h3, hl⟩
    exact ⟨a :: w, fails_cons h1 h2 h3, by simp [hl]⟩
theorem Ds.one {p : P} : Ds A step fail p 1 ↔ ∃ a, a < A ∧ fail p a = true := by
  constructor
  · exact fun h => Fn.one.mp h.1
  · refine fun h => ⟨Fn.one.mpr h, fun m hm => ?_⟩
    have : m = 0 := by omega
    subst this; exact Fn.zero
theorem least_nat {Q : Nat → Prop} {n : Nat} (h : Q n) : ∃ m, m ≤ n ∧ Q m ∧ ∀ k, k < m → ¬ Q k := by
  induction n using Nat.strongRecOn with
  | _ n ih =>
    by_cases c : ∃ k, k < n ∧ Q k
    · obtain ⟨k, hk, q⟩ := c
      obtain ⟨m, h1, h2⟩ := ih k hk q
      exact ⟨m, by omega, h2⟩
    · exact ⟨n, Nat.le_refl _, h, fun k hk q => c ⟨k, hk, q⟩⟩
theorem Ds.of {p : P} {n : Nat} (h : Fn A step fail n p) : ∃ m, m ≤ n ∧ Ds A step fail p m := by
  obtain ⟨m, h1, h2, h3⟩ := least_nat (Q := fun n => Fn A step fail n p) h
  exact ⟨m, h1, h2, h3⟩
theorem Least.len {p : P} {w : List Nat} {n : Nat} (h : Least A step fail p w) (d : Ds A step fail p n) : w.length = n := by
  rcases Nat.lt_trichotomy w.length n with c | c | c
  · exact absurd ⟨w, h.1, rfl⟩ (d.2 _ c)
  · exact c
  · obtain ⟨v, hv, hl⟩ := d.1
    exact absurd (.inl (by omega)) (h.2 v hv)
theorem Least.one {p : P} {a : Nat} (ha : a < A) (hf : fail p a = true) (hb : ∀ b, b < a → fail p b = false) : Least A step fail p [a] := by
  refine ⟨⟨[], a, p, rfl, ha, fun x hx => by simp at hx, rfl, hf⟩, fun v hv hs => ?_⟩
  cases v with
  | nil => exact fails_ne hv
  | cons b v =>
    rcases hs with h | ⟨h, h'⟩
    · simp at h
    · have : v = [] := List.length_eq_zero_iff.mp (by simpa using h)
      subst this
      rcases fails_inv hv with ⟨_, _, h2⟩ | ⟨q, _, _, h3⟩
      · rcases h' with h' | ⟨_, h'⟩
        · rw [hb b h'] at h2; cases h2
        · exact h'
      · exact fails_ne h3
theorem Least.cons {p q : P} {a n : Nat} {w : List Nat} (d : Ds A step fail p (n + 1)) (hn : 1 ≤ n) (ha : a < A) (hs : step p a = some q) (dq : Ds A step fail q n) (hb : ∀ b q', b < a → step p b = some q' → ¬ Ds A step fail q' n) (h : Least A step fail q w) : Least A step fail p (a :: w) := by
  have hl := h.len dq
  refine ⟨fails_cons ha hs h.1, fun v hv hsl => ?_⟩
  have hvl : v.length = n + 1 := by
    rcases hsl with h' | ⟨h', _⟩
    · exact absurd ⟨v, hv, rfl⟩ (d.2 v.length (by rw [List.length_cons] at h'; omega))
    · rw [List.length_cons] at h'; omega
  cases v with
  | nil => simp at hvl
  | cons b v =>
    rcases hsl with h' | ⟨_, h'⟩
    · rw [hvl, List.length_cons] at h'; omega
    · rcases fails_inv hv with ⟨e, _⟩ | ⟨q', h1, h2, h3⟩
      · subst e; simp at hvl; omega
      · have hvl' : v.length = n := by simpa using hvl
        have dq' : Ds A step fail q' n := ⟨⟨v, h3, hvl'⟩, fun m hm ⟨u, hu, hul⟩ => d.2 (m + 1) (by omega) ⟨b :: u, fails_cons h1 h2 hu, by simp [hul]⟩⟩
        rcases h' with h' | ⟨e, h'⟩
        · exact hb b q' h' h2 dq'
        · subst e
          rw [hs] at h2; cases h2
          exact h.2 v h3 (.inr ⟨by omega, h'⟩)
end
end BF
namespace SP
open PySem PySem.W PyProof.Rows
inductive Ok (lt : Nat → Nat → Bool) (n : Nat) {α : Type} (G : α → Prop) : KasT α → Prop where
  | ret {a : α} (h : G a) : Ok lt n G (.ret a)
  | ask {i j : Nat} {k : Bool → KasT α} (hi : i < n) (hj : j < n) (h : Ok lt n G (k (lt i j))) : Ok lt n G (.ask i j k)
theorem Ok.bind {lt : Nat → Nat → Bool} {n : Nat} {α β : Type} {G : β → Prop} {G' : α → Prop} {t : KasT α} {f : α → KasT β} (h : Ok lt n G' t) (hf : ∀ a, G' a → Ok lt n G (f a)) : Ok lt n G (t.bind f) := by
  induction h with
  | ret h => exact hf _ h
  | ask hi hj _ ih => exact .ask hi hj ih
section
variable {r : Nat → Int} {n : Nat}
noncomputable def lt (r : Nat → Int) (i j : Nat) : Bool := decide (r i < r j)
noncomputable def at' (r : Nat → Int) (p : Array Nat) (k : Nat) : Int := r (p.getD k 0)
noncomputable def Pm (n : Nat) (p : Array Nat) : Prop := p.Perm (List.range n).toArray
noncomputable def Up (r : Nat → Int) (p : Array Nat) (m : Nat) : Prop := ∀ i j, i < j → j < m → at' r p i < at' r p j
noncomputable def Inj (r : Nat → Int) (n : Nat) : Prop := ∀ i j, i < n → j < n → r i = r j → i = j
theorem Pm.size {p : Array Nat} (h : Pm n p) : p.size = n := by
  have := h.size_eq; simpa using this
theorem Pm.lt {p : Array Nat} (h : Pm n p) {k : Nat} (hk : k < n) : p.getD k 0 < n := by
  have hs := h.size
  have e : p.getD k 0 = p[k]'(by omega) := by simp [Array.getD, hs, hk]
  have := (Array.perm_iff_toList_perm.mp h).mem_iff (a := p[k]'(by omega))
  rw [e]
  have h1 : p[k]'(by omega) ∈ p.toList := by simp
  simpa using this.mp h1
theorem Pm.inj {p : Array Nat} (h : Pm n p) (hr : Inj r n) {i j : Nat} (hi : i < n) (hj : j < n) (e : at' r p i = at' r p j) : i = j := by
  have hs := h.size
  have e1 := hr _ _ (h.lt hi) (h.lt hj) e
  have ei : p.getD i 0 = p[i]'(by omega) := by simp [Array.getD, hs, hi]
  have ej : p.getD j 0 = p[j]'(by omega) := by simp [Array.getD, hs, hj]
  rw [ei, ej] at e1
  have nd : p.toList.Nodup := (Array.perm_iff_toList_perm.mp h).nodup_iff.mpr (by simpa using List.nodup_range)
  have : p.toList[i]'(by simp; omega) = p.toList[j]'(by simp; omega) := by simpa using e1
  exact (List.getElem_inj nd).mp this
theorem Pm.lt_of {p : Array Nat} (h : Pm n p) (hr : Inj r n) {i j : Nat} (hi : i < n) (hj : j < n) (hij : i ≠ j) (e : ¬ at' r p j < at' r p i) : at' r p i < at' r p j := by
  rcases Int.lt_or_eq_of_le (Int.not_lt.mp e) with z | z
  · exact z
  · exact absurd (h.inj hr hi hj z) hij
theorem at_of {p q : Array Nat} {i j : Nat} (h : p[i]? = q[j]?) : at' r p i = at' r q j := by
  unfold at'
  have : p.getD i 0 = q.getD j 0 := by simp only [Array.getD_eq_getD_getElem?, h]
  rw [this]
theorem Up.more {p : Array Nat} {m : Nat} (u : Up r p m) (hm : 0 < m) (h : at' r p (m - 1) < at' r p m) : Up r p (m + 1) := fun i j hij hj => by
  by_cases e : j = m
  · subst e
    by_cases e2 : i = j - 1
    · rw [e2]; exact h
    · exact Int.lt_trans (u i (j - 1) (by omega) (by omega)) h
  · exact u i j hij (by omega)
theorem asc {p : Array Nat} (hp : Pm n p) (hr : Inj r n) : ∀ (f m : Nat), m + f = n → 1 ≤ m → Up r p m → Ok (lt r) n (fun m' => m ≤ m' ∧ m' ≤ n ∧ Up r p m' ∧ (m' < n → at' r p m' < at' r p (m' - 1))) (kas_asc p f m)
  | 0, m, e, h1, u => .ret ⟨Nat.le_refl _, by omega, u, fun z => by omega⟩
  | f + 1, m, e, h1, u => by
    refine .ask (hp.lt (by omega)) (hp.lt (by omega)) ?_
    by_cases c : at' r p m < at' r p (m - 1)
    · rw [if_pos (show lt r _ _ = true from decide_eq_true c)]
      exact .ret ⟨Nat.le_refl _, by omega, u, fun _ => c⟩
    · rw [if_neg (show ¬ lt r _ _ = true by rw [show lt r _ _ = false from decide_eq_false c]; simp)]
      have ih := asc hp hr f (m + 1) (by omega) (by omega) (u.more (by omega) (hp.lt_of hr (by omega) (by omega) (by omega) c))
      have := Ok.bind (f := KasT.ret) ih (fun a ha => Ok.ret (G := fun m' => m ≤ m' ∧ m' ≤ n ∧ Up r p m' ∧ (m' < n → at' r p m' < at' r p (m' - 1))) ⟨by omega, ha.2.1, ha.2.2.1, ha.2.2.2⟩)
      have eb : ∀ {α : Type} (t : KasT α), t.bind KasT.ret = t := fun t => by
        induction t with
        | ret a => rfl
        | ask i j k ih => show KasT.ask i j (fun b => (k b).bind KasT.ret) = _; congr 1; funext b; exact ih b
      rw [eb] at this
      exact this
noncomputable def Dn (r : Nat → Int) (p : Array Nat) (m : Nat) : Prop := ∀ i j, i < j → j < m → at' r p j < at' r p i
theorem desc {p : Array Nat} (hp : Pm n p) (hr : Inj r n) : ∀ (f m : Nat), m + f = n → 1 ≤ m → Dn r p m → Ok (lt r) n (fun z => ∃ m', z = (p, m', 0) ∧ 1 ≤ m' ∧ m' ≤ n ∧ Dn r p m') (kas_desc f p m 0)
  | 0, m, e, h1, u => .ret ⟨m, rfl, h1, by omega, u⟩
  | f + 1, m, e, h1, u => by
    refine .ask (hp.lt (by omega)) (hp.lt (by omega)) ?_
    by_cases c : at' r p m < at' r p (m - 1)
    · rw [if_pos (show lt r _ _ = true from decide_eq_true c), if_neg (by omega)]
      refine desc hp hr f (m + 1) (by omega) (by omega) fun i j hij hj => ?_
      by_cases e : j = m
      · subst e
        by_cases e2 : i = j - 1
        · rw [e2]; exact c
        · exact Int.lt_trans c (u i (j - 1) (by omega) (by omega))
      · exact u i j hij (by omega)
    · rw [if_neg (show ¬ lt r _ _ = true by rw [show lt r _ _ = false from decide_eq_false c]; simp)]
      refine .ask (hp.lt (by omega)) (hp.lt (by omega)) ?_
      rw [if_pos (show lt r _ _ = true from decide_eq_true (hp.lt_of hr (by omega) (by omega) (by omega) c))]
      exact .ret ⟨m, rfl, h1, by omega, u⟩
theorem rev_pm {p : Array Nat} (hp : Pm n p) (i j : Nat) : Pm n (kas_rev p i j) := (mirror_perm p i j _).trans hp
theorem rev_up {p : Array Nat} (hp : Pm n p) {m : Nat} (hm : m ≤ n) (d : Dn r p m) : Up r (kas_rev p 0 m) m := fun i j hij hj => by
  have h : ∀ k, k < m → at' r (kas_rev p 0 m) k = at' r p (m - 1 - k) := fun k hk => at_of (by
    unfold kas_rev
    rw [getElem?_mirror_all (by rw [hp.size]; exact hm), if_pos ⟨Nat.zero_le _, hk⟩]
    congr 1; omega)
  rw [h i (by omega), h j hj]
  exact d _ _ (by omega) (by omega)
noncomputable def Good (r : Nat → Int) (n : Nat) (z : Nat × Array Nat) : Prop := 1 ≤ z.1 ∧ z.1 ≤ n ∧ Pm n z.2 ∧ Up r z.2 z.1
theorem count {p : Array Nat} (hp : Pm n p) (hr : Inj r n) (h1 : 1 ≤ n) : Ok (lt r) n (Good r n) (kas_count n p) := by
  unfold kas_count
  refine (asc hp hr (n - 1) 1 (by omega) (by omega) fun i j hij hj => by omega).bind fun m ⟨g1, g2, g3, g4⟩ => ?_
  by_cases e : m = n
  · rw [if_pos (by simpa using e)]
    exact .ret ⟨g1, g2, hp, g3⟩
  · rw [if_neg (by simpa using e)]
    by_cases e1 : m > 1
    · rw [if_pos e1]
      refine .ask (hp.lt (by omega)) (hp.lt (by omega)) ?_
      rw [if_pos (show lt r _ _ = true from decide_eq_true (g3 0 (m - 1) (by omega) (by omega)))]
      exact .ret ⟨g1, g2, hp, g3⟩
    · rw [if_neg e1]
      have em : m = 1 := by omega
      subst em
      unfold kas_descPart
      refine (desc hp hr (n - 2) 2 (by omega) (by omega) fun i j hij hj => ?_).bind fun z ⟨m', ez, k1, k2, k3⟩ => ?_
      · have : i = 0 ∧ j = 1 := by omega
        rw [this.1, this.2]
        exact g4 (by omega)
      · subst ez
        rw [if_neg (show ¬ (0 : Nat) > 0 by omega)]
        unfold kas_tail3
        refine (asc (rev_pm hp 0 m') hr (n - m') m' (by omega) k1 (rev_up hp k2 k3)).bind fun k ⟨q1, q2, q3, _⟩ => ?_
        exact .ret ⟨by show 1 ≤ k; omega, q2, rev_pm hp 0 m', q3⟩
theorem place {p : Array Nat} (hp : Pm n p) {k : Nat} (hk : k < n) (u : Up r p k) : ∀ (f l h : Nat), h - l ≤ f → l ≤ h → h ≤ k → (∀ i, i < l → at' r p i ≤ at' r p k) → (∀ i, h ≤ i → i < k → at' r p k < at' r p i) →
    Ok (lt r) n (fun l' => l' ≤ k ∧ (∀ i, i < l' → at' r p i ≤ at' r p k) ∧ ∀ i, l' ≤ i → i < k → at' r p k < at' r p i) (kas_place p k f l h)
  | 0, l, h, e, hlh, hh, a, b => by
    have : l = h := by omega
    subst this
    exact .ret ⟨hh, a, b⟩
  | f + 1, l, h, e, hlh, hh, a, b => by
    unfold kas_place
    by_cases c : l ≥ h
    · rw [if_pos c]
      have : l = h := by omega
      subst this
      exact .ret ⟨hh, a, b⟩
    · rw [if_neg c]
      refine .ask (hp.lt hk) (hp.lt (by omega)) ?_
      by_cases d : at' r p k < at' r p ((l + h) / 2)
      · rw [if_pos (show lt r _ _ = true from decide_eq_true d)]
        refine place hp hk u f l _ (by omega) (by omega) (by omega) a fun i hi hik => ?_
        by_cases z : i = (l + h) / 2
        · rw [z]; exact d
        · exact Int.lt_trans d (u _ _ (by omega) hik)
      · rw [if_neg (show ¬ lt r _ _ = true by rw [show lt r _ _ = false from decide_eq_false d]; simp)]
        refine place hp hk u f _ h (by omega) (by omega) hh (fun i hi => ?_) b
        by_cases z : i = (l + h) / 2
        · rw [z]; exact Int.not_lt.mp d
        · exact Int.le_trans (Int.le_of_lt (u i ((l + h) / 2) (by omega) (by omega))) (Int.not_lt.mp d)
end
end SP
namespace SP
open PySem PySem.W PyProof.Rows PySem.Calls
noncomputable abbrev Pr := Int × Int
noncomputable def IsP (h : Heap) (v : Value) (p : Pr) : Prop := ∃ a o t1 t2 n, v = .ref a ∧ h.get? a = some o ∧ o.cls = .type "tuple" ∧ o.data = .seq #[.int p.1 t1, .int p.2 t2] n
theorem IsP.kept {h h' : Heap} {v : Value} {p : Pr} (x : IsP h v p) (k : ∀ b o, o.cls = .type "tuple" → h.get? b = some o → h'.get? b = some o) : IsP h' v p :=
  let ⟨a, o, t1, t2, n, e, ho, c, d⟩ := x; ⟨a, o, t1, t2, n, e, k a o c ho, c, d⟩
inductive TR (R : Value → Pr → Prop) : List Value → List Pr → Prop where
  | nil : TR R [] []
  | cons {v : Value} {p : Pr} {vs : List Value} {ps : List Pr} : R v p → TR R vs ps → TR R (v :: vs) (p :: ps)
noncomputable abbrev Tp (h : Heap) := TR (IsP h)
theorem TR.length {R : Value → Pr → Prop} {vs : List Value} {ps : List Pr} (t : TR R vs ps) : vs.length = ps.length := by
  induction t with
  | nil => rfl
  | cons _ _ ih => simp [ih]
theorem TR.imp {R R' : Value → Pr → Prop} {vs : List Value} {ps : List Pr} (t : TR R vs ps) (k : ∀ v p, R v p → R' v p) : TR R' vs ps := by
  induction t with
  | nil => exact .nil
  | cons x _ ih => exact .cons (k _ _ x) ih
theorem TR.get {R : Value → Pr → Prop} {vs : List Value} {ps : List Pr} (t : TR R vs ps) : ∀ {i : Nat}, i < ps.length → R (vs.getD i .none) (ps.getD i (0, 0)) := by
  induction t with
  | nil => intro i hi; simp at hi
  | cons x _ ih =>
    intro i hi
    cases i with
    | zero => simpa using x
    | succ j => simpa using ih (i := j) (by simpa using hi)
theorem tups {h : Heap} {vs : List Value} {ps : List Pr} (t : Tp h vs ps) : ∃ fs : List Value, KatTups h vs fs ∧ fs.length = ps.length ∧ ∀ v ∈ fs, ∃ i k, v = .int i k := by
  induction t with
  | nil => exact ⟨[], .nil, rfl, fun v hv => by simp at hv⟩
  | @cons v p vs ps x _ ih =>
    obtain ⟨fs, h1, h2, h3⟩ := ih
    obtain ⟨a, o, t1, t2, n, rfl, ho, c, d⟩ := x
    refine ⟨.int p.1 t1 :: fs, KatTups.cons ho c d rfl h1, by simp [h2], fun v hv => ?_⟩
    rcases List.mem_cons.mp hv with e | hv
    · exact ⟨_, _, e⟩
    · exact h3 v hv
section
variable {prog : Program} {w : World} {A : Around} {E : Value → Shared → Prop} {s : Shared}
end
section
variable {prog : Program} {w : World} {A : Around} {E : Value → Shared → Prop} {s : Shared}
end
end SP
namespace L2
open PySem PySem.Spec PyProof.Rows
noncomputable abbrev Key := Sum Int Str
noncomputable def keyIs : Key → Value → Bool
  | .inl k, v => Value.isInt k v
  | .inr x, v => Value.isStrOf x v
noncomputable def keyH (w : World) : Key → Int
  | .inl k => hashInt k
  | .inr x => hashStr w x
theorem keyIs_shape : ∀ {k : Key} {v : Value}, keyIs k v = true → (∃ i t, k = Sum.inl i ∧ v = Value.int i t) ∨ (∃ x t, k = Sum.inr x ∧ v = Value.str x t)
  | .inl i, v, h => by
    obtain ⟨t, e⟩ := Value.isInt_shape (k := i) (v := v) h
    exact .inl ⟨i, t, rfl, e⟩
  | .inr x, v, h => by
    obtain ⟨t, e⟩ := Value.isStrOf_shape (x := x) (v := v) h
    exact .inr ⟨x, t, rfl, e⟩
theorem key_ll (a b : Int) : decide ((Sum.inl a : Key) = Sum.inl b) = (a == b) := by
  by_cases e : a = b
  · subst e; simp
  · have h : ¬ (Sum.inl a : Key) = Sum.inl b := fun q => e (Sum.inl.inj q)
    rw [decide_eq_false h]
    exact (beq_eq_false_iff_ne.mpr e).symm
theorem key_rr (a b : Str) : decide ((Sum.inr a : Key) = Sum.inr b) = decide (a = b) := by
  by_cases e : a = b
  · subst e; simp
  · have h : ¬ (Sum.inr a : Key) = Sum.inr b := fun q => e (Sum.inr.inj q)
    rw [decide_eq_false h, decide_eq_false e]
theorem key_lr (a : Int) (b : Str) : decide ((Sum.inl a : Key) = Sum.inr b) = false := decide_eq_false (fun q => nomatch q)
theorem key_rl (a : Str) (b : Int) : decide ((Sum.inr a : Key) = Sum.inl b) = false := decide_eq_false (fun q => nomatch q)
noncomputable def mixKind (prog : Program) (w : World) : PySem.KeyKind prog w Key where
  is := keyIs
  hash := keyH w
  inj := fun v a b ha hb => by
    rcases keyIs_shape ha with ⟨i, t, rfl, rfl⟩ | ⟨x, t, rfl, rfl⟩
    · rcases keyIs_shape hb with ⟨j, u, rfl, e⟩ | ⟨y, u, rfl, e⟩
      · injection e with e1 _; rw [e1]
      · exact nomatch e
    · rcases keyIs_shape hb with ⟨j, u, rfl, e⟩ | ⟨y, u, rfl, e⟩
      · exact nomatch e
      · injection e with e1 _; rw [e1]
  byValue := fun k v h => by
    rcases keyIs_shape h with ⟨i, t, rfl, rfl⟩ | ⟨x, t, rfl, rfl⟩ <;> rfl
  pyHash := fun hv h => by
    rcases keyIs_shape hv with ⟨i, t, rfl, rfl⟩ | ⟨x, t, rfl, rfl⟩
    · exact wpAny_pyHash_int h
    · exact wpAny_pyHash_str h
  eqBool := fun hu hv h => by
    rcases keyIs_shape hu with ⟨i, t, rfl, rfl⟩ | ⟨x, t, rfl, rfl⟩
    · rcases keyIs_shape hv with ⟨j, u, rfl, rfl⟩ | ⟨y, u, rfl, rfl⟩
      · rw [key_ll] at h; exact wpAny_eqBool_int h
      · rw [key_lr] at h; exact SeqAt.EqAt.int_str i t y u _ _ _ _ h
    · rcases keyIs_shape hv with ⟨j, u, rfl, rfl⟩ | ⟨y, u, rfl, rfl⟩
      · rw [key_rl] at h; exact SeqAt.EqAt.str_int x t j u _ _ _ _ h
      · rw [key_rr] at h; exact wpAny_eqBool_str h
  «strs» := fun k x t v h => by
    rcases keyIs_shape h with ⟨i, u, rfl, e⟩ | ⟨y, u, rfl, e⟩
    · exact nomatch e
    · injection e with e1 _
      subst e1
      cases v <;> rfl
end L2
namespace L2
open PySem PySem.Spec PyProof.Rows
inductive V where
  | non | bl (b : Bool) | int (i : Int) | str (x : Str) | byt (b : Array UInt8) | flt (b : UInt64) | ref (a : Addr) | ty (n : String)
  deriving DecidableEq
noncomputable def RelV : V → Value → Prop
  | .non, u => u = Value.none
  | .bl b, u => u = Value.bool b
  | .int i, u => ∃ t, u = Value.int i t
  | .str x, u => ∃ t, u = Value.str x t
  | .byt b, u => ∃ t, u = Value.bytes b t
  | .flt b, u => ∃ t, u = Value.float b t
  | .ref a, u => u = Value.ref a
  | .ty n, u => u = Value.type n
noncomputable abbrev Vals : List V → List Value → Prop := Paired RelV
theorem Vals.length {xs : List V} {us : List Value} (r : Vals xs us) : xs.length = us.length := Paired.length r
theorem Vals.get : ∀ {xs : List V} {us : List Value} {i : Nat} {x : V}, Vals xs us → xs[i]? = some x → ∃ u, us[i]? = some u ∧ RelV x u
  | _, _, _, _, .nil, e => by simp at e
  | _, _, 0, _, .cons r _, e => by simp at e; subst e; exact ⟨_, rfl, r⟩
  | _, _, i + 1, x, .cons _ t, e => by
    obtain ⟨u, h1, h2⟩ := Vals.get (i := i) (x := x) t (by simpa using e)
    exact ⟨u, by simpa using h1, h2⟩
theorem Vals.set {x : V} {u : Value} (r : RelV x u) : ∀ {xs : List V} {us : List Value} (i : Nat), Vals xs us → Vals (xs.set i x) (us.set i u)
  | _, _, _, .nil => .nil
  | _, _, 0, .cons _ t => .cons r t
  | _, _, i + 1, .cons q t => .cons q (Vals.set r i t)
theorem Vals.append : ∀ {xs ys : List V} {us ws : List Value}, Vals xs us → Vals ys ws → Vals (xs ++ ys) (us ++ ws)
  | _, _, _, _, .nil, s => s
  | _, _, _, _, .cons r t, s => .cons r (Vals.append t s)
theorem Vals.take : ∀ {xs : List V} {us : List Value} (n : Nat), Vals xs us → Vals (xs.take n) (us.take n)
  | _, _, 0, _ => .nil
  | _, _, _ + 1, .nil => .nil
  | _, _, n + 1, .cons r t => .cons r (Vals.take n t)
theorem Vals.drop : ∀ {xs : List V} {us : List Value} (n : Nat), Vals xs us → Vals (xs.drop n) (us.drop n)
  | _, _, 0, r => r
  | _, _, _ + 1, .nil => .nil
  | _, _, n + 1, .cons _ t => Vals.drop n t
noncomputable def RelO : Option V → Option Value → Prop
  | some v, some u => RelV v u
  | none, none => True
  | _, _ => False
noncomputable def KV {κ : Type} : List (κ × V) → List (κ × Value) → Prop := Paired fun (p : κ × V) (q : κ × Value) => p.1 = q.1 ∧ RelV p.2 q.2
noncomputable def kV : Key → V
  | .inl i => .int i
  | .inr x => .str x
inductive HO where
  | lst (xs : List V)
  | tup (xs : List V)
  | dK (kvs : List (Key × V)) | dT (kvs : List (List Key × V))
  | set (S : Int → Bool) (n : Nat)
  | ins (C dx : Addr) (fs : List (Str × V))
  | own (x : Addr)
  | xd (fs : List (Str × V))
  | met (f x : Addr)
  | rng (lo hi : Int)
  | frz (o : Obj) (u : HO)
  | tbl (ps : Array Value)
  | ext (φ : Heap → Prop)
noncomputable abbrev Hp := Addr → Option HO
noncomputable def upd (H : Hp) (a : Addr) (o : HO) : Hp := fun b => if b = a then some o else H b
theorem upd_same {H : Hp} {a : Addr} {o : HO} : upd H a o a = some o := by unfold upd; rw [if_pos rfl]
theorem upd_ne {H : Hp} {a b : Addr} {o : HO} (h : b ≠ a) : upd H a o b = H b := by unfold upd; rw [if_neg h]
theorem ne_of {H : Hp} {a b : Addr} {o u : HO} (h : H a = some o) (h' : H b = some u) (d : o ≠ u) : a ≠ b := by
  intro e; subst e; rw [h] at h'; exact d (Option.some.inj h')
theorem ne_of_none {H : Hp} {a b : Addr} {o : HO} (h : H a = some o) (h' : H b = none) : a ≠ b := by
  intro e; subst e; rw [h] at h'; cases h'
noncomputable def IsTD (h : Heap) (a : Addr) (items : Array Value) : Prop := ∃ o, h.get? a = some o ∧ o.cls = .type "tuple" ∧ ∃ n, o.data = .seq items n ∧ o.dict = none
theorem IsTD.tup {h : Heap} {a : Addr} {items : Array Value} (x : IsTD h a items) : IsTup h a items := by
  obtain ⟨o, e, c, n, d, _⟩ := x
  exact ⟨o, e, c, n, d⟩
theorem IsTD.new (h : Heap) (items : Array Value) : IsTD (h.push { cls := .type "tuple", data := .seq items }) h.objs.size items := ⟨_, Heap.get?_push_size _ rfl, rfl, _, rfl, rfl⟩
section
variable (P : Program) (w : World)
noncomputable def ObjOk (H : Hp) (h : Heap) (a : Addr) : HO → Prop
  | .lst xs => xs.length ≤ sizeLine ∧ ∃ (its : List Value) (n : Nat), Vals xs its ∧ h.get? a = some { cls := .type "list", data := .seq its.toArray n }
  | .tup xs => xs.length ≤ sizeLine ∧ ∃ its : List Value, Vals xs its ∧ IsTD h a its.toArray
  | .dK kvs => kvs.length ≤ sizeLine ∧ (a == sysModules) = false ∧ ∃ vs, KV kvs vs ∧ h.DictOf (mixKind P w) a vs
  | .dT kvs => kvs.length ≤ sizeLine ∧ (a == sysModules) = false ∧ ∃ xs : List (List Key × Addr × Value),
      Paired (fun (p : List Key × V) (q : List Key × Addr × Value) => p.1 = q.1 ∧ H q.2.1 = some (.tup (p.1.map kV)) ∧ RelV p.2 q.2.2) kvs xs ∧
      ∃ o es ep, h.get? a = some o ∧ o.ExactDict ∧ o.data = .dict es ep ∧ es.toList = xs.map (entryOfKey (tupleKind (mixKind P w))) ∧ (xs.map (·.1)).Nodup
  | .set S n => h.SetOf (intKind P w) a S n
  | .ins C dx fs => H dx = some (.own a) ∧ fs.length ≤ 1000 ∧ dx ≠ a ∧ h.get? a = some (PySem.W.instObj C dx) ∧
      ∃ mA, h.Ns1 dx mA ∧ (∀ f, RelO (fs.lookup f) (mA f)) ∧ PySem.Within mA (fs.map (·.1))
  | .own _ => ∃ o, h.get? a = some o
  | .xd fs => ∃ mA, h.Ns1 a mA ∧ ∀ f, RelO (fs.lookup f) (mA f)
  | .rng lo hi => ∃ t u v, h.get? a = some { cls := .type "range", data := .fields #[.int lo t, .int hi u, .int 1 v] }
  | .frz o u => h.get? a = some o ∧ ObjOk H h a u
  | .tbl ps => h.get? a = some { cls := .none, data := .fields ps }
  | .met f x => h.get? a = some (PySem.W.methodObj (.ref f) (.ref x))
  | .ext φ => φ h ∧ (∃ o, h.get? a = some o) ∧ ∀ h1 h2 : Heap, φ h1 → (∀ o, h1.get? a = some o → h2.get? a = some o) → φ h2
noncomputable def HOk (H : Hp) (h : Heap) : Prop := ∀ a o, H a = some o → ObjOk P w H h a o
end
section
variable {P : Program} {w : World} {H H' : Hp} {h h' : Heap} {a : Addr} {o : HO}
theorem ObjOk.lt (x : ObjOk P w H h a o) : a < h.objs.size := by
  cases o with
  | lst xs => obtain ⟨_, _, _, _, e⟩ := x; exact Heap.lt_size e
  | tup xs => obtain ⟨_, _, _, p⟩ := x; exact p.tup.lt
  | dK kvs => obtain ⟨_, _, _, _, o, _, _, e, _⟩ := x; exact Heap.lt_size e
  | dT kvs => obtain ⟨_, _, _, _, o, _, _, e, _⟩ := x; exact Heap.lt_size e
  | set S n => obtain ⟨o, _, _, _, e, _⟩ := x; exact Heap.lt_size e
  | ins C dx fs => obtain ⟨_, _, _, e, _⟩ := x; exact Heap.lt_size e
  | own y => obtain ⟨_, e⟩ := x; exact Heap.lt_size e
  | xd fs => obtain ⟨_, ⟨_, _, _, e, _⟩, _⟩ := x; exact Heap.lt_size e
  | rng lo hi => obtain ⟨_, _, _, e⟩ := x; exact Heap.lt_size e
  | frz ob u => obtain ⟨e, _⟩ := x; exact Heap.lt_size e
  | tbl ps => exact Heap.lt_size (show h.get? a = some _ from x)
  | met f y => exact Heap.lt_size (show h.get? a = some _ from x)
  | ext φ => obtain ⟨_, ⟨_, e⟩, _⟩ := x; exact Heap.lt_size e
theorem Paired.mapP {α β : Type} {F G : α → β → Prop} : ∀ {l₁ : List α} {l₂ : List β}, Paired F l₁ l₂ → (∀ a b, F a b → G a b) → Paired G l₁ l₂
  | _, _, .nil, _ => .nil
  | _, _, .cons r t, f => .cons (f _ _ r) (Paired.mapP t f)
theorem ObjOk.stay (x : ObjOk P w H h a o) (k : ∀ b u, (b = a ∨ H b = some (.own a)) → h.get? b = some u → h'.get? b = some u)
    (ho : ∀ b, H b = some (.own a) → H' b = some (.own a)) (ht : ∀ b xs, H b = some (.tup xs) → H' b = some (.tup xs)) : ObjOk P w H' h' a o := by
  induction o with
  | lst xs => obtain ⟨z, its, n, r, e⟩ := x; exact ⟨z, its, n, r, k _ _ (.inl rfl) e⟩
  | tup xs => obtain ⟨z, its, r, ob, e, c⟩ := x; exact ⟨z, its, r, ob, k _ _ (.inl rfl) e, c⟩
  | dK kvs => obtain ⟨z, y, vs, r, ob, es, ep, e, c⟩ := x; exact ⟨z, y, vs, r, ob, es, ep, k _ _ (.inl rfl) e, c⟩
  | dT kvs =>
    obtain ⟨z, y, xs, r, ob, es, ep, e, c⟩ := x
    exact ⟨z, y, xs, Paired.mapP r fun p q z => ⟨z.1, ht _ _ z.2.1, z.2.2⟩, ob, es, ep, k _ _ (.inl rfl) e, c⟩
  | set S n => obtain ⟨ob, es, ep, t, e, c⟩ := x; exact ⟨ob, es, ep, t, k _ _ (.inl rfl) e, c⟩
  | ins C dx fs =>
    obtain ⟨d, z, ne, e, mA, ⟨od, es, ep, e2, c⟩, r⟩ := x
    exact ⟨ho _ d, z, ne, k _ _ (.inl rfl) e, mA, ⟨od, es, ep, k _ _ (.inr d) e2, c⟩, r⟩
  | own y => obtain ⟨ob, e⟩ := x; exact ⟨ob, k _ _ (.inl rfl) e⟩
  | xd fs => obtain ⟨mA, ⟨od, es, ep, e, c⟩, r⟩ := x; exact ⟨mA, ⟨od, es, ep, k _ _ (.inl rfl) e, c⟩, r⟩
  | rng lo hi => obtain ⟨t, u, v, e⟩ := x; exact ⟨t, u, v, k _ _ (.inl rfl) e⟩
  | frz ob u ih => obtain ⟨e, q⟩ := x; exact ⟨k _ _ (.inl rfl) e, ih q⟩
  | tbl ps =>
    have e : h.get? a = some { cls := .none, data := .fields ps } := x
    show h'.get? a = some { cls := .none, data := .fields ps }
    exact k a _ (.inl rfl) e
  | met f y =>
    have e : h.get? a = some (PySem.W.methodObj (.ref f) (.ref y)) := x
    show h'.get? a = some (PySem.W.methodObj (.ref f) (.ref y))
    exact k a _ (.inl rfl) e
  | ext φ => obtain ⟨p, ⟨o, e⟩, st⟩ := x; exact ⟨st _ _ p fun o q => k _ _ (.inl rfl) q, ⟨o, k _ _ (.inl rfl) e⟩, st⟩
theorem HOk.lt (x : HOk P w H h) (e : H a = some o) : a < h.objs.size := (x a o e).lt
theorem HOk.fresh (x : HOk P w H h) (e : h.objs.size ≤ a) : H a = none := by
  cases q : H a with
  | none => rfl
  | some u => exact absurd (Nat.lt_of_lt_of_le (x.lt q) e) (Nat.lt_irrefl _)
theorem HOk.kept (x : HOk P w H h) (k : ∀ b u, h.get? b = some u → h'.get? b = some u) : HOk P w H h' := fun a o e =>
  (x a o e).stay (fun b u _ q => k b u q) (fun _ q => q) fun _ _ q => q
theorem HOk.laid (x : HOk P w H h) (k : ∀ b u, h.get? b = some u → h'.get? b = some u) (hp : h.objs.size ≤ a) (new : ObjOk P w (upd H a o) h' a o) : HOk P w (upd H a o) h' := fun b u e => by
  have hn := x.fresh hp
  by_cases hb : b = a
  · subst hb; rw [upd_same] at e; cases e; exact new
  · rw [upd_ne hb] at e
    exact (x b u e).stay (fun c v _ q => k c v q) (fun c q => by rw [upd_ne (ne_of_none q hn)]; exact q) fun c xs q => by rw [upd_ne (ne_of_none q hn)]; exact q
end
noncomputable def Rd (H : Hp) (a : Addr) (u : HO) : Prop := H a = some u ∨ ∃ o, H a = some (.frz o u)
theorem Rd.of {H : Hp} {a : Addr} {u : HO} (h : H a = some u) : Rd H a u := .inl h
theorem Rd.ok {P : Program} {w : World} {H : Hp} {h : Heap} {a : Addr} {u : HO} (r : Rd H a u) (x : HOk P w H h) : ObjOk P w H h a u := by
  rcases r with r | ⟨o, r⟩
  · exact x a u r
  · obtain ⟨_, q⟩ := x a _ r
    exact q
noncomputable def Mut : Option HO → Prop
  | some (.lst _) => True
  | some (.dK _) => True
  | some (.dT _) => True
  | some (.set _ _) => True
  | some (.ins _ _ _) => True
  | some (.ext _) => True
  | _ => False
section
variable {P : Program} {w : World} {H : Hp} {h h' : Heap} {x e : Addr} {o' : HO}
theorem HOk.write (ok : HOk P w H h) (mu : Mut (H x)) (he : e = x ∨ H e = some (.own x)) (k : ∀ b u, b ≠ e → h.get? b = some u → h'.get? b = some u) (heo : ∃ u, h'.get? e = some u)
    (new : ObjOk P w (upd H x o') h' x o') : HOk P w (upd H x o') h' := fun b u q => by
  have nown : ∀ c y, H c = some (.own y) → c ≠ x := fun c y r z => by subst z; rw [r] at mu; exact mu
  have ntup : ∀ c xs, H c = some (.tup xs) → c ≠ x := fun c xs r z => by subst z; rw [r] at mu; exact mu
  by_cases hb : b = x
  · subst hb; rw [upd_same] at q; cases q; exact new
  · rw [upd_ne hb] at q
    by_cases hbe : b = e
    · have q' : H b = some (.own x) := by
        rcases he with z | z
        · exact absurd (hbe.trans z) hb
        · rw [hbe]; exact z
      rw [q] at q'; cases q'
      obtain ⟨v, hv⟩ := heo
      exact ⟨v, by rw [hbe]; exact hv⟩
    · refine (ok b u q).stay (fun c v hc r => k c v ?_ r) (fun c r => by rw [upd_ne (nown c b r)]; exact r) fun c xs r => by rw [upd_ne (ntup c xs r)]; exact r
      rcases hc with rfl | hc
      · exact hbe
      · rintro rfl
        rcases he with z | z
        · exact nown c b hc z
        · rw [hc] at z; cases z; exact hb rfl
end
structure Un (fs ex : List Addr) (H H' : Hp) (h h' : Heap) : Prop where
  keep : ∀ b o, h.get? b = some o → H b = none → b ∉ fs → b ∉ ex → h'.get? b = some o
  slot : ∀ b o, h.get? b = some o → H b = none → b ∈ fs → b ∉ ex → ∃ sl, h'.get? b = some { o with slots := sl }
  free : ∀ b o, h.get? b = some o → H b = none → b ∉ ex → H' b = none
  there : ∀ b o, h.get? b = some o → b ∉ ex → ∃ o', h'.get? b = some o'
  tups : ∀ b xs, H b = some (.tup xs) → H' b = some (.tup xs)
  frzs : ∀ b o u, H b = some (.frz o u) → H' b = some (.frz o u)
  tbls : ∀ b ps, H b = some (.tbl ps) → ∃ more, H' b = some (.tbl (ps ++ more))
section
variable {fs fs' ex ex' : List Addr} {H H1 H2 : Hp} {h h1 h2 h' : Heap} {a x e : Addr} {o : HO}
theorem Un.any (u : Un fs ex H H1 h h1) {b : Addr} {ob : Obj} (q : h.get? b = some ob) (n : H b = none) (hx : b ∉ ex) : ∃ sl, h1.get? b = some { ob with slots := sl } := by
  by_cases hb : b ∈ fs
  · exact u.slot b ob q n hb hx
  · exact ⟨ob.slots, u.keep b ob q n hb hx⟩
theorem Un.trans (a : Un fs ex H H1 h h1) (b : Un fs ex H1 H2 h1 h2) : Un fs ex H H2 h h2 where
  keep := fun c ob q n hc hx => b.keep c ob (a.keep c ob q n hc hx) (a.free c ob q n hx) hc hx
  slot := fun c ob q n hc hx => by
    obtain ⟨sl, e1⟩ := a.slot c ob q n hc hx
    obtain ⟨sl', e2⟩ := b.slot c _ e1 (a.free c ob q n hx) hc hx
    exact ⟨sl', e2⟩
  free := fun c ob q n hx => by
    obtain ⟨o', e1⟩ := a.there c ob q hx
    exact b.free c o' e1 (a.free c ob q n hx) hx
  there := fun c ob q hx => by
    obtain ⟨o', e1⟩ := a.there c ob q hx
    exact b.there c o' e1 hx
  tups := fun c xs q => b.tups c xs (a.tups c xs q)
  frzs := fun c ob xs q => b.frzs c ob xs (a.frzs c ob xs q)
  tbls := fun c ps q => by
    obtain ⟨m1, e1⟩ := a.tbls c ps q
    obtain ⟨m2, e2⟩ := b.tbls c _ e1
    exact ⟨m1 ++ m2, by rw [e2, Array.append_assoc]⟩
theorem Un.kept (k : ∀ b u, h.get? b = some u → h'.get? b = some u) : Un fs ex H H h h' :=
  ⟨fun b ob q _ _ _ => k b ob q, fun b ob q _ _ _ => ⟨ob.slots, k b ob q⟩, fun _ _ _ n _ => n, fun b ob q _ => ⟨ob, k b ob q⟩, fun _ _ q => q, fun _ _ _ q => q, fun _ ps q => ⟨#[], by rw [q]; simp⟩⟩
theorem Un.refl : Un fs ex H H h h := Un.kept fun _ _ q => q
theorem Un.laid (k : ∀ b u, h.get? b = some u → h'.get? b = some u) (hp : h.objs.size ≤ a) (hn : H a = none) : Un fs ex H (upd H a o) h h' where
  keep := fun b u q _ _ _ => k b u q
  slot := fun b u q _ _ _ => ⟨u.slots, k b u q⟩
  free := fun b u q n _ => by rw [upd_ne (Nat.ne_of_lt (Nat.lt_of_lt_of_le (Heap.lt_size q) hp))]; exact n
  there := fun b u q _ => ⟨u, k b u q⟩
  tups := fun b xs q => by rw [upd_ne (ne_of_none q hn)]; exact q
  frzs := fun b u xs q => by rw [upd_ne (ne_of_none q hn)]; exact q
  tbls := fun b ps q => ⟨#[], by rw [upd_ne (ne_of_none q hn), q]; simp⟩
theorem Un.write (mu : Mut (H x)) (he : e = x ∨ H e = some (.own x)) (k : ∀ b u, b ≠ e → h.get? b = some u → h'.get? b = some u) (heo : ∃ u, h'.get? e = some u) : Un fs ex H (upd H x o) h h' := by
  have hx : ∀ b, H b = none → b ≠ x := fun b n z => by subst z; rw [n] at mu; exact mu
  have hb : ∀ b, H b = none → b ≠ e := fun b n z => by
    subst z
    rcases he with r | r
    · exact hx b n r
    · rw [n] at r; cases r
  have hm : ∀ b u, H b = some u → ¬ Mut (some u) → b ≠ x := fun b u q nm z => by subst z; rw [q] at mu; exact nm mu
  refine ⟨fun b u q n _ _ => k b u (hb b n) q, fun b u q n _ _ => ⟨u.slots, k b u (hb b n) q⟩, fun b u q n _ => by rw [upd_ne (hx b n)]; exact n, fun b u q _ => ?_,
    fun b xs q => by rw [upd_ne (hm b _ q fun z => z)]; exact q, fun b u xs q => by rw [upd_ne (hm b _ q fun z => z)]; exact q, fun b ps q => ⟨#[], by rw [upd_ne (hm b _ q fun z => z), q]; simp⟩⟩
  by_cases hbe : b = e
  · subst hbe; exact heo
  · exact ⟨u, k b u hbe q⟩
theorem Un.mono (u : Un fs ex H H1 h h1) (hs : ∀ b ∈ fs, b ∈ fs') (hx : ∀ b ∈ ex, b ∈ ex') : Un fs' ex' H H1 h h1 :=
  ⟨fun b ob q n hb he => u.keep b ob q n (fun z => hb (hs b z)) fun z => he (hx b z), fun _ _ q n _ he => u.any q n fun z => he (hx _ z), fun b ob q n he => u.free b ob q n fun z => he (hx b z), fun b ob q he => u.there b ob q fun z => he (hx b z), u.tups, u.frzs, u.tbls⟩
end
noncomputable def trk (h : Heap) (H : Hp) : List Addr := (List.range h.objs.size).filter fun a => (H a).isSome
noncomputable def hidT (h : Heap) (H : Hp) : Heap := PySem.W.hideAll h (trk h H)
theorem hidT_size (h : Heap) (H : Hp) : (hidT h H).objs.size = h.objs.size := PySem.W.hideAll_size _ _
theorem hidT_get {h : Heap} {H : Hp} {b : Addr} {o : Obj} (e : h.get? b = some o) (n : H b = none) : (hidT h H).get? b = some o :=
  PySem.W.hideAll_get _ e fun hm => by
    have q : (H b).isSome = true := (List.mem_filter.mp hm).2
    rw [n] at q; simp at q
theorem of_hidT {h : Heap} {H : Hp} {b : Addr} {o : Obj} (e : (hidT h H).get? b = some o) : h.get? b = some o ∧ H b = none := by
  have e' : h.get? b = some o := PySem.W.of_hideAll (trk h H) e
  refine ⟨e', ?_⟩
  cases q : H b with
  | none => rfl
  | some x =>
    have hm : b ∈ trk h H := List.mem_filter.mpr ⟨List.mem_range.mpr (Heap.lt_size e'), by simp [q]⟩
    have z : (hidT h H).get? b = none := PySem.W.hideAll_none (trk h H) hm
    rw [z] at e; cases e
noncomputable def allNews (g h : Heap) (L : Addr) : List (Addr × Obj) := (List.range h.objs.size).filterMap fun a => if a = L ∨ (g.get? a).isSome = true then none else (h.get? a).map fun o => (a, o)
theorem mem_allNews {g h : Heap} {L a : Addr} {o : Obj} (h1 : a ≠ L) (h2 : g.get? a = none) (h3 : h.get? a = some o) : (a, o) ∈ allNews g h L :=
  List.mem_filterMap.mpr ⟨a, List.mem_range.mpr (Heap.lt_size h3), by simp [h1, h2, h3]⟩
theorem of_mem_allNews {g h : Heap} {L : Addr} {p : Addr × Obj} (hp : p ∈ allNews g h L) : p.1 ≠ L ∧ g.get? p.1 = none ∧ h.get? p.1 = some p.2 := by
  obtain ⟨b, _, e⟩ := List.mem_filterMap.mp hp
  split at e
  · cases e
  · rename_i hn
    cases q : h.get? b with
    | none => rw [q] at e; simp at e
    | some u =>
      rw [q] at e
      simp only [Option.map_some, Option.some.injEq] at e
      subst e
      refine ⟨fun z => hn (.inl z), ?_, q⟩
      show g.get? b = none
      cases r : g.get? b with
      | none => rfl
      | some v => exact (hn (.inr (by simp [r]))).elim
noncomputable def rest (g h : Heap) (L d : Addr) : List (Addr × Obj) := (allNews g h L).filter fun p => decide (p.1 ≠ d)
theorem rest_ne {g h : Heap} {L d : Addr} : ∀ p ∈ rest g h L d, p.1 ≠ d := fun p hp => of_decide_eq_true (List.mem_filter.mp hp).2
theorem mem_rest {g h : Heap} {L d a : Addr} {o : Obj} (h1 : a ≠ L) (h2 : g.get? a = none) (h3 : h.get? a = some o) (h4 : a ≠ d) : (a, o) ∈ rest g h L d :=
  List.mem_filter.mpr ⟨mem_allNews h1 h2 h3, decide_eq_true h4⟩
theorem news_all {g h : Heap} {L : Addr} : News g L h (allNews g h L) := fun p hp => let ⟨a, b, c⟩ := of_mem_allNews hp; ⟨c, a, b⟩
theorem news_at {g h : Heap} {L d : Addr} {o : Obj} (h1 : d ≠ L) (h2 : g.get? d = none) (h3 : h.get? d = some o) : News g L h ((d, o) :: rest g h L d) := fun p hp => by
  rcases List.mem_cons.mp hp with rfl | hp
  · exact ⟨h3, h1, h2⟩
  · exact news_all p (List.mem_filter.mp hp).1
theorem kept_of_news {g h h' : Heap} {L d : Addr} {m : Str → Option Value} (k : ∀ b o, g.get? b = some o → h.get? b = some o) (F : Fr g L h' m) (N : News g L h' (rest g h L d)) :
    ∀ b o, b ≠ L → b ≠ d → h.get? b = some o → h'.get? b = some o := fun b o h1 h2 e => by
  cases q : g.get? b with
  | some u =>
    have := k b u q
    rw [e] at this; cases this
    exact F.keep b _ q
  | none => exact (N (b, o) (mem_rest h1 q e h2)).1
end L2
namespace L2
open PySem PySem.Spec PyProof.Rows
noncomputable def BMd (mg : Str → Option Value) (h : Heap) : Prop := ∃ bm ob, mg "__builtins__" = some (.ref bm) ∧ bm ≠ builtinsNs ∧ h.get? bm = some ob ∧ ob.cls = .type "module" ∧ ob.dict = some builtinsNs ∧ ob.data = .plain
structure Mod (K : PySem.W.Frag) (mg : Str → Option Value) (base : Heap) : Prop where
  kin : K.In base
  glob : base.Ns mainGlobals mg
  blt : ∃ mb, base.Ns builtinsNs mb ∧ ∀ x : Str, x ≠ "__name__" → mb x = bootBuiltins x
  nolimit : base.NoLimit
  bm : BMd mg base
structure Cx where
  prog : Program
  w : World
  K : PySem.W.Frag
  mg : Str → Option Value
  base : Heap
  A : Around
  N : List Str
  s₀ : Shared
  H₀ : Hp
  env : Env
  outer : List Env
  stack : List Env
  ex : List Addr
  fn : Str → Bool
  calm : Bool
  pn : List (Addr × Obj)
  xe : Value → Shared → Prop
noncomputable def frs (l : List Env) : List Addr := l.filterMap (·.frame)
noncomputable abbrev Cx.fs (X : Cx) : List Addr := frs X.outer
noncomputable def Vis (sc : Scope) (x : Str) : Prop := sc.names.lookup x = some .local ∨ sc.names.lookup x = some .cell ∨ sc.names.lookup x = some .free
noncomputable def Loc (sc : Scope) (x : Str) : Prop := sc.names.lookup x = some .local ∨ sc.names.lookup x = some .cell
noncomputable def Look (env : Env) (h : Heap) (m : Str → Option Value) (x : Str) (u : Value) : Prop :=
  (env.kindOf x = some .local ∧ m x = some u) ∨ ((env.kindOf x = some .cell ∨ env.kindOf x = some .free) ∧ ∃ c, env.cells.lookup x = some c ∧ h.IsCell c (some u))
structure Cx.Ok (X : Cx) : Prop where
  mod : Mod X.K X.mg X.base
  kind : X.env.scope.kind = .function
  glob : X.env.globals = mainGlobals
  blt : X.env.builtins = builtinsNs
  above : X.s₀.heap.objs.size ≤ X.env.locals
  inj : ∀ x y c, X.env.cells.lookup x = some c → X.env.cells.lookup y = some c → x = y
  has : ∀ x, (X.env.kindOf x = some .cell ∨ X.env.kindOf x = some .free) → ∃ c, X.env.cells.lookup x = some c
  cab : ∀ x c, X.fn x = true → X.env.cells.lookup x = some c → X.s₀.heap.objs.size ≤ c
  hd : X.calm = true → X.A.handled = none
  frames : X.A.frames = some X.stack
  stk : X.stack = X.outer ∨ (X.stack = X.env :: X.outer ∧ X.env.frame = some X.env.locals)
  exf : ∀ b ∈ X.ex, b ≠ X.env.locals ∧ ∀ x c, X.env.cells.lookup x = some c → c ≠ b
  bs : ∀ b o, X.base.get? b = some o → X.s₀.heap.get? b = some o ∧ X.H₀ b = none
  bsz : X.base.objs.size ≤ X.s₀.heap.objs.size
  noex : ∀ b o, X.base.get? b = some o → b ∉ X.ex
  exfs : ∀ b ∈ X.ex, b ∉ X.fs
  funs : X.s₀.heap.FunFrames X.base X.outer
  frf : ∀ b ∈ X.fs, X.H₀ b = none
structure Inv (X : Cx) (pins : List (Addr × Obj)) (σ : List (Option V)) (H : Hp) (s : Shared) : Prop where
  ok : X.Ok
  os : s.os = X.s₀.os
  bare : AllBare s.gens
  base : Un X.fs X.ex X.H₀ H X.s₀.heap s.heap
  loc : ∃ m, s.heap.Ns X.env.locals m ∧ ∀ (i : Nat) (x : Str) (v : V), X.N[i]? = some x → σ[i]? = some (some v) → Vis X.env.scope x → ∃ u, RelV v u ∧ Look X.env s.heap m x u
  cell : ∀ x c, X.env.cells.lookup x = some c → ∃ v, s.heap.IsCell c v
  free : H X.env.locals = none
  freeC : ∀ x c, X.env.cells.lookup x = some c → H c = none
  pin : ∀ p ∈ X.pn ++ pins, s.heap.get? p.1 = some p.2 ∧ H p.1 = none ∧ p.1 ≠ X.env.locals ∧ p.1 ∉ X.fs ∧ ∀ v, p.2.data ≠ .cell v
  hok : HOk X.prog X.w H s.heap
  len : σ.length = X.N.length
section
variable {X : Cx} {pins : List (Addr × Obj)} {σ : List (Option V)} {H H' : Hp} {s : Shared} {h' : Heap}
theorem Cx.Ok.nofr (ok : X.Ok) {b : Addr} {o : Obj} (e : X.base.get? b = some o) : b ∉ X.fs := fun hb => by
  have := (ok.funs.mem hb).1
  rw [e] at this; cases this
theorem Inv.bs (I : Inv X pins σ H s) : ∀ b o, X.base.get? b = some o → s.heap.get? b = some o ∧ H b = none := fun b o e =>
  ⟨I.base.keep b o (I.ok.bs b o e).1 (I.ok.bs b o e).2 (I.ok.nofr e) (I.ok.noex b o e), I.base.free b o (I.ok.bs b o e).1 (I.ok.bs b o e).2 (I.ok.noex b o e)⟩
theorem Inv.bk (I : Inv X pins σ H s) : ∀ b o, X.base.get? b = some o → s.heap.get? b = some o := fun b o e => (I.bs b o e).1
theorem Inv.mod (I : Inv X pins σ H s) : Mod X.K X.mg X.base := I.ok.mod
theorem Inv.kIn (I : Inv X pins σ H s) : X.K.In s.heap := I.ok.mod.kin.keeps I.bk
theorem Inv.nolimit (I : Inv X pins σ H s) : s.heap.NoLimit := I.ok.mod.nolimit.keeps I.bk
theorem Inv.fr (I : Inv X pins σ H s) : ∃ m, Fr X.base X.env.locals s.heap m :=
  let ⟨m, hn, _⟩ := I.loc
  ⟨m, hn, I.bk, Nat.le_trans I.ok.bsz I.ok.above⟩
theorem Inv.lt (I : Inv X pins σ H s) : X.env.locals < s.heap.objs.size := let ⟨_, hn, _⟩ := I.loc; hn.lt
theorem Inv.sz (I : Inv X pins σ H s) : X.s₀.heap.objs.size ≤ s.heap.objs.size := Nat.le_trans I.ok.above (Nat.le_of_lt I.lt)
theorem Inv.nofs (I : Inv X pins σ H s) {a : Addr} (h : s.heap.objs.size ≤ a) : a ∉ X.fs := fun hb => by
  obtain ⟨_, o, ho, _⟩ := I.ok.funs.mem hb
  exact absurd (Nat.lt_of_lt_of_le (Heap.lt_size ho) (Nat.le_trans I.sz h)) (Nat.lt_irrefl _)
theorem Inv.cne (I : Inv X pins σ H s) : ∀ x c, X.env.cells.lookup x = some c → c ≠ X.env.locals := fun x c e z => by
  obtain ⟨v, o, ho, hd⟩ := I.cell x c e
  obtain ⟨m, ⟨o', es, ep, ho', hd', _⟩, _⟩ := I.loc
  rw [z, ho'] at ho; cases ho; rw [hd'] at hd; cases hd
theorem Inv.funs (I : Inv X pins σ H s) : s.heap.FunFrames X.base X.outer := by
  have all : ∀ (l : List Env), (∀ b ∈ frs l, b ∈ X.fs) → X.s₀.heap.FunFrames X.base l → s.heap.FunFrames X.base l := by
    intro l
    induction l with
    | nil => intro _ _; trivial
    | cons env r ih =>
      intro hs hl
      obtain ⟨hk, ⟨L, o, hf, hn, ho, hd⟩, hr⟩ := hl
      have hL : L ∈ X.fs := hs L (by unfold frs; rw [List.filterMap_cons, hf]; exact List.mem_cons_self)
      obtain ⟨sl, e⟩ := I.base.slot L o ho (I.ok.frf L hL) hL fun z => I.ok.exfs L z hL
      exact ⟨hk, ⟨L, _, hf, hn, e, hd⟩, ih (fun b hb => hs b (by unfold frs; rw [List.filterMap_cons, hf]; exact List.mem_cons_of_mem _ hb)) hr⟩
  exact all X.outer (fun _ hb => hb) I.ok.funs
theorem Inv.stack (I : Inv X pins σ H s) : s.heap.FunFrames X.base X.stack := by
  rcases I.ok.stk with e | ⟨e, hf⟩
  · rw [e]; exact I.funs
  · rw [e]
    obtain ⟨m, hn, _⟩ := I.loc
    refine .cons (by rw [I.ok.kind]; decide) hf hn ?_ I.funs
    exact Heap.get?_none_of_le (Nat.le_trans I.ok.bsz I.ok.above)
theorem Inv.stkSub (I : Inv X pins σ H s) : ∀ b ∈ frs X.stack, b ∈ X.env.locals :: X.fs := fun b hb => by
  rcases I.ok.stk with e | ⟨e, hf⟩
  · rw [e] at hb; exact List.mem_cons_of_mem _ hb
  · rw [e] at hb
    unfold frs at hb
    rw [List.filterMap_cons, hf] at hb
    exact hb
theorem Inv.stkFree (I : Inv X pins σ H s) : ∀ b ∈ frs X.stack, H b = none := fun b hb => by
  rcases List.mem_cons.mp (I.stkSub b hb) with e | hb
  · rw [e]; exact I.free
  · obtain ⟨_, o, ho, _⟩ := I.ok.funs.mem hb
    exact I.base.free b o ho (I.ok.frf b hb) fun z => I.ok.exfs b z hb
theorem Inv.step {g' : Array GenState} {t' : Nat} {d' : Drawn} {ch : List Addr} (I : Inv X pins σ H s)
    (hch : ∀ b ∈ ch, (b ∈ X.ex ∨ X.s₀.heap.objs.size ≤ b) ∧ b ≠ X.env.locals ∧ (∀ x c, X.env.cells.lookup x = some c → c ≠ b) ∧ ∀ p ∈ X.pn ++ pins, p.1 ≠ b)
    (keep : ∀ b o, b ≠ X.env.locals → b ∉ X.fs → b ∉ ch → s.heap.get? b = some o → H b = none → h'.get? b = some o)
    (slot : ∀ b o, b ≠ X.env.locals → b ∈ X.fs → b ∉ ch → s.heap.get? b = some o → H b = none → ∃ sl, h'.get? b = some { o with slots := sl }) (free : ∀ b o, b ∉ ch → s.heap.get? b = some o → H b = none → H' b = none)
    (there : ∀ b o, b ∉ ch → s.heap.get? b = some o → ∃ o', h'.get? b = some o')
    (tups : ∀ b xs, H b = some (.tup xs) → H' b = some (.tup xs)) (frzs : ∀ b o u, H b = some (.frz o u) → H' b = some (.frz o u)) (tbls : ∀ b ps, H b = some (.tbl ps) → ∃ more, H' b = some (.tbl (ps ++ more)))
    (ns : ∀ m, s.heap.Ns X.env.locals m → h'.Ns X.env.locals m) (hok : HOk X.prog X.w H' h') (hg : AllBare g') :
    Inv X pins σ H' { s with heap := h', gens := g', drawn := d', toks := t' } := by
  have neL : ∀ b o, X.s₀.heap.get? b = some o → b ≠ X.env.locals := fun b o e => Nat.ne_of_lt (Nat.lt_of_lt_of_le (Heap.lt_size e) I.ok.above)
  have neC : ∀ b o, X.s₀.heap.get? b = some o → b ∉ X.ex → b ∉ ch := fun b o e hx hb => by
    rcases (hch b hb).1 with z | z
    · exact hx z
    · exact absurd (Nat.lt_of_lt_of_le (Heap.lt_size e) z) (Nat.lt_irrefl _)
  have cellK : ∀ x c, X.env.cells.lookup x = some c → ∀ v, s.heap.IsCell c v → h'.IsCell c v := fun x c e v hx1_ => by
    obtain ⟨o, ho, hd⟩ := hx1_
    have nch : c ∉ ch := fun z => (hch c z).2.2.1 x c e rfl
    by_cases hc : c ∈ X.fs
    · obtain ⟨sl, q⟩ := slot c o (I.cne x c e) hc nch ho (I.freeC x c e)
      exact ⟨_, q, hd⟩
    · exact ⟨o, keep c o (I.cne x c e) hc nch ho (I.freeC x c e), hd⟩
  refine ⟨I.ok, I.os, hg, ⟨fun b o e n hb hx => ?_, fun b o e n hb hx => ?_, fun b o e n hx => ?_, fun b o e hx => ?_, fun b xs e => tups b xs (I.base.tups b xs e), fun b o xs e => frzs b o xs (I.base.frzs b o xs e), fun b ps e => ?_⟩, ?_, fun x c e => ?_, ?_, fun x c e => ?_, fun p hp => ?_, hok, I.len⟩
  · exact keep b o (neL b o e) hb (neC b o e hx) (I.base.keep b o e n hb hx) (I.base.free b o e n hx)
  · obtain ⟨sl, e1⟩ := I.base.slot b o e n hb hx
    obtain ⟨sl', e2⟩ := slot b _ (neL b o e) hb (neC b o e hx) e1 (I.base.free b o e n hx)
    exact ⟨sl', e2⟩
  · obtain ⟨o', e1⟩ := I.base.there b o e hx
    exact free b o' (neC b o e hx) e1 (I.base.free b o e n hx)
  · obtain ⟨o', e1⟩ := I.base.there b o e hx
    exact there b o' (neC b o e hx) e1
  · obtain ⟨m1, e1⟩ := I.base.tbls b ps e
    obtain ⟨m2, e2⟩ := tbls b _ e1
    exact ⟨m1 ++ m2, by rw [e2, Array.append_assoc]⟩
  · obtain ⟨m, hn, hl⟩ := I.loc
    refine ⟨m, ns m hn, fun i x v e1 e2 e3 => ?_⟩
    obtain ⟨u, r, l⟩ := hl i x v e1 e2 e3
    refine ⟨u, r, ?_⟩
    rcases l with l | ⟨k, c, e, z⟩
    · exact .inl l
    · exact .inr ⟨k, c, e, cellK x c e _ z⟩
  · obtain ⟨v, z⟩ := I.cell x c e
    exact ⟨v, cellK x c e v z⟩
  · obtain ⟨m, ⟨o, _, _, ho, _⟩, _⟩ := I.loc
    exact free _ o (fun z => (hch _ z).2.1 rfl) ho I.free
  · obtain ⟨v, o, ho, hd⟩ := I.cell x c e
    exact free c o (fun z => (hch c z).2.2.1 x c e rfl) ho (I.freeC x c e)
  · obtain ⟨e, n, ne, nf, d⟩ := I.pin p hp
    have nch : p.1 ∉ ch := fun z => (hch p.1 z).2.2.2 p hp rfl
    exact ⟨keep p.1 p.2 ne nf nch e n, free p.1 p.2 nch e n, ne, nf, d⟩
theorem Inv.un {t' : Nat} (I : Inv X pins σ H s) (u : Un X.fs [] H H' s.heap h') (hok : HOk X.prog X.w H' h') : Inv X pins σ H' { s with heap := h', toks := t' } := by
  obtain ⟨m, ⟨o, es, ep, ho, r⟩, _⟩ := id I.loc
  obtain ⟨sl, hL⟩ := u.any ho I.free (by simp)
  exact I.step (g' := s.gens) (d' := s.drawn) (ch := []) (fun _ z => nomatch z) (fun b o _ hb _ e n => u.keep b o e n hb (by simp)) (fun b o _ hb _ e n => u.slot b o e n hb (by simp)) (fun b o _ e n => u.free b o e n (by simp)) (fun b o _ e => u.there b o e (by simp)) u.tups u.frzs u.tbls (fun m' hm => by
    obtain ⟨o', es', ep', ho', r'⟩ := hm
    rw [ho] at ho'; cases ho'
    exact ⟨_, es', ep', hL, r'⟩) hok I.bare
theorem Inv.call {g' : Array GenState} {t' : Nat} {d' : Drawn} {ch : List Addr} (I : Inv X pins σ H s) (u : Un (frs X.stack) ch H H' s.heap h') (hok : HOk X.prog X.w H' h') (hg : AllBare g')
    (hch : ∀ b ∈ ch, (b ∈ X.ex ∨ X.s₀.heap.objs.size ≤ b) ∧ b ≠ X.env.locals ∧ (∀ x c, X.env.cells.lookup x = some c → c ≠ b) ∧ ∀ p ∈ X.pn ++ pins, p.1 ≠ b) :
    Inv X pins σ H' { s with heap := h', gens := g', drawn := d', toks := t' } := by
  obtain ⟨m, ⟨o, es, ep, ho, r⟩, _⟩ := id I.loc
  obtain ⟨sl, hL⟩ := u.any ho I.free fun z => (hch _ z).2.1 rfl
  exact I.step (ch := ch) hch (fun b o hL hb hc e n => u.keep b o e n (fun z => (List.mem_cons.mp (I.stkSub b z)).elim hL hb) hc) (fun b o _ _ hc e n => u.any e n hc) (fun b o hc e n => u.free b o e n hc) (fun b o hc e => u.there b o e hc) u.tups u.frzs u.tbls (fun m' hm => by
    obtain ⟨o', es', ep', ho', r'⟩ := hm
    rw [ho] at ho'; cases ho'
    exact ⟨_, es', ep', hL, r'⟩) hok hg
theorem Inv.turned {t' : Nat} {it : Addr} (I : Inv X pins σ H s) (k : ∀ b o, b ≠ it → s.heap.get? b = some o → h'.get? b = some o) (hn : H it = none) (hL : it ≠ X.env.locals)
    (h1 : it ∈ X.ex ∨ X.s₀.heap.objs.size ≤ it) (h2 : ∀ x c, X.env.cells.lookup x = some c → c ≠ it) (h3 : ∀ p ∈ X.pn ++ pins, p.1 ≠ it) : Inv X pins σ H { s with heap := h', toks := t' } := by
  have nit : ∀ b u, H b = some u → b ≠ it := fun b u e z => by rw [z, hn] at e; cases e
  refine I.step (g' := s.gens) (d' := s.drawn) (ch := [it]) (fun b hb => ?_) (fun b o _ _ hc e _ => k b o (fun z => hc (by simp [z])) e) (fun b o _ _ hc e _ => ⟨o.slots, k b o (fun z => hc (by simp [z])) e⟩) (fun _ _ _ _ n => n)
    (fun b o hc e => ⟨o, k b o (fun z => hc (by simp [z])) e⟩) (fun _ _ e => e) (fun _ _ _ e => e) (fun b ps e => ⟨#[], by rw [e]; simp⟩) (fun m hm => ?_) (fun b u e => ?_) I.bare
  · have e : b = it := by simpa using hb
    subst e
    exact ⟨h1, hL, h2, h3⟩
  · obtain ⟨o, es, ep, ho, r⟩ := hm
    exact ⟨o, es, ep, k _ o (Ne.symm hL) ho, r⟩
  · refine (I.hok b u e).stay (fun c v hc q => k c v ?_ q) (fun _ q => q) fun _ _ q => q
    rcases hc with z | z
    · rw [z]; exact nit b u e
    · exact nit c _ z
theorem Inv.tok (I : Inv X pins σ H s) (t : Nat) : Inv X pins σ H { s with toks := t } := I.un (h' := s.heap) (t' := t) Un.refl I.hok
theorem Inv.kept {t' : Nat} (I : Inv X pins σ H s) (k : ∀ b u, s.heap.get? b = some u → h'.get? b = some u) : Inv X pins σ H { s with heap := h', toks := t' } := I.un (Un.kept k) (I.hok.kept k)
theorem Inv.laid {a : Addr} {o : HO} {t' : Nat} (I : Inv X pins σ H s) (k : ∀ b u, s.heap.get? b = some u → h'.get? b = some u) (hp : s.heap.objs.size ≤ a) (new : ObjOk X.prog X.w (upd H a o) h' a o) :
    Inv X pins σ (upd H a o) { s with heap := h', toks := t' } := I.un (Un.laid k hp (I.hok.fresh hp)) (I.hok.laid k hp new)
theorem Inv.write {x e : Addr} {o : HO} {t' : Nat} (I : Inv X pins σ H s) (mu : Mut (H x)) (he : e = x ∨ H e = some (.own x)) (k : ∀ b u, b ≠ e → s.heap.get? b = some u → h'.get? b = some u) (heo : ∃ u, h'.get? e = some u)
    (new : ObjOk X.prog X.w (upd H x o) h' x o) : Inv X pins σ (upd H x o) { s with heap := h', toks := t' } := I.un (Un.write mu he k heo) (I.hok.write mu he k heo new)
theorem Inv.pins_of {pins' : List (Addr × Obj)} (I : Inv X pins σ H s) (h : ∀ p ∈ pins', s.heap.get? p.1 = some p.2 ∧ H p.1 = none ∧ p.1 ≠ X.env.locals ∧ p.1 ∉ X.fs ∧ ∀ v, p.2.data ≠ .cell v) : Inv X pins' σ H s :=
  ⟨I.ok, I.os, I.bare, I.base, I.loc, I.cell, I.free, I.freeC, fun p hp => (List.mem_append.mp hp).elim (fun z => I.pin p (List.mem_append_left _ z)) (h p), I.hok, I.len⟩
theorem nodup_ix {N : List Str} (hN : N.Nodup) {i j : Nat} {x : Str} (a : N[i]? = some x) (b : N[j]? = some x) : i = j := by
  obtain ⟨h1, e1⟩ := List.getElem?_eq_some_iff.mp a
  obtain ⟨h2, e2⟩ := List.getElem?_eq_some_iff.mp b
  exact (List.getElem_inj hN).mp (e1.trans e2.symm)
theorem store_ok2 {M : Model} {A : Around} {E : Value → Shared → Prop} {i : Nat} {x : Str} {v : V} {u : Value} {Q : Unit → Shared → Prop} (I : Inv X pins σ H s) (hN : X.N.Nodup) (hi : X.N[i]? = some x) (hx : Loc X.env.scope x) (r : RelV v u)
    (h : ∀ s', Inv X pins (σ.set i (some v)) H s' → (∃ a, Heap.SameBut a s.heap s'.heap ∧ (a = X.env.locals ∨ X.env.cells.lookup x = some a)) → Q () s') (hf : X.fn x = true ∨ X.env.scope.names.lookup x = some .local := by first | exact .inl rfl | exact .inr rfl | assumption) : wpAny M A (storeName X.env x u) Q E s := by
  obtain ⟨m, hn, hl⟩ := id I.loc
  have hcls : (X.env.scope.kind == .class || (X.env.scope.kind == .module && X.env.locals != X.env.globals)) = false := by rw [I.ok.kind]; rfl
  have hiσ : i < σ.length := by rw [I.len]; exact (List.getElem?_eq_some_iff.mp hi).1
  have cne := I.cne
  have tracked : ∀ {a : Addr} {h' : Heap}, (∃ o, s.heap.get? a = some o ∧ H a = none) → Heap.SameBut a s.heap h' → HOk X.prog X.w H h' := fun {a h'} ha hs b ob e => by
    obtain ⟨_, _, hfree⟩ := ha
    refine (I.hok b ob e).stay (fun c w' hc q => (hs.2 c ?_).trans q) (fun _ q => q) fun _ _ q => q
    rintro rfl
    rcases hc with rfl | hc
    · rw [hfree] at e; cases e
    · rw [hfree] at hc; cases hc
  rcases hx with hk | hk
  · refine wpAny_storeName_local hk hn (fun h' hn' hs => ?_) hcls
    obtain ⟨oL, _, _, hoL, _⟩ := id hn
    refine h _ ⟨I.ok, I.os, I.bare, ⟨fun b o e n hb hx => ?_, fun b o e n hb hx => ?_, I.base.free, fun b o e hx => ?_, I.base.tups, I.base.frzs, I.base.tbls⟩, ⟨_, hn', fun j y v' e1 e2 e3 => ?_⟩, fun y c e => ?_, I.free, I.freeC, fun p hp => ?_, tracked ⟨oL, hoL, I.free⟩ hs, by simpa using I.len⟩ ⟨_, hs, .inl rfl⟩
    · exact (hs.2 b (Nat.ne_of_lt (Nat.lt_of_lt_of_le (Heap.lt_size e) I.ok.above))).trans (I.base.keep b o e n hb hx)
    · obtain ⟨sl, e1⟩ := I.base.slot b o e n hb hx
      exact ⟨sl, (hs.2 b (Nat.ne_of_lt (Nat.lt_of_lt_of_le (Heap.lt_size e) I.ok.above))).trans e1⟩
    · obtain ⟨o', e1⟩ := I.base.there b o e hx
      exact ⟨o', (hs.2 b (Nat.ne_of_lt (Nat.lt_of_lt_of_le (Heap.lt_size e) I.ok.above))).trans e1⟩
    · by_cases hj : j = i
      · subst hj
        rw [hi] at e1; cases e1
        rw [List.getElem?_set_self hiσ] at e2
        cases e2
        exact ⟨u, r, .inl ⟨hk, by simp⟩⟩
      · rw [List.getElem?_set_ne (Ne.symm hj)] at e2
        obtain ⟨u', r', q⟩ := hl j y v' e1 e2 e3
        refine ⟨u', r', ?_⟩
        rcases q with ⟨k, e⟩ | ⟨k, c, e, z⟩
        · refine .inl ⟨k, ?_⟩
          have : y ≠ x := fun e => hj (nodup_ix hN e1 (e ▸ hi))
          simp [this, e]
        · exact .inr ⟨k, c, e, z.sameBut hs (cne y c e)⟩
    · obtain ⟨w', z⟩ := I.cell y c e
      exact ⟨w', z.sameBut hs (cne y c e)⟩
    · obtain ⟨e, n, ne, nf, d⟩ := I.pin p hp
      exact ⟨(hs.2 p.1 ne).trans e, n, ne, nf, d⟩
  · have hfn : X.fn x = true := by
      rcases hf with z | z
      · exact z
      · rw [z] at hk; cases hk
    obtain ⟨c, hc⟩ := I.ok.has x (.inl hk)
    obtain ⟨w', z⟩ := I.cell x c hc
    refine wpAny_storeName_cell I.ok.kind hk hc z (fun h' hc' hs => ?_)
    obtain ⟨oc, hoc, hocd⟩ := id z
    refine h { s with heap := h' } ⟨I.ok, I.os, I.bare, ⟨fun b o e n hb hx => ?_, fun b o e n hb hx => ?_, I.base.free, fun b o e hx => ?_, I.base.tups, I.base.frzs, I.base.tbls⟩, ⟨m, hn.sameBut hs (Ne.symm (cne x c hc)), fun j y v' e1 e2 e3 => ?_⟩, fun y c' e => ?_, I.free, I.freeC, fun p hp => ?_, tracked ⟨oc, hoc, I.freeC x c hc⟩ hs, by simpa using I.len⟩ ⟨c, hs, .inr hc⟩
    · exact (hs.2 b (Nat.ne_of_lt (Nat.lt_of_lt_of_le (Heap.lt_size e) (I.ok.cab x c hfn hc)))).trans (I.base.keep b o e n hb hx)
    · obtain ⟨sl, e1⟩ := I.base.slot b o e n hb hx
      exact ⟨sl, (hs.2 b (Nat.ne_of_lt (Nat.lt_of_lt_of_le (Heap.lt_size e) (I.ok.cab x c hfn hc)))).trans e1⟩
    · obtain ⟨o', e1⟩ := I.base.there b o e hx
      exact ⟨o', (hs.2 b (Nat.ne_of_lt (Nat.lt_of_lt_of_le (Heap.lt_size e) (I.ok.cab x c hfn hc)))).trans e1⟩
    · by_cases hj : j = i
      · subst hj
        rw [hi] at e1; cases e1
        rw [List.getElem?_set_self hiσ] at e2
        cases e2
        exact ⟨u, r, .inr ⟨.inl hk, c, hc, hc'⟩⟩
      · rw [List.getElem?_set_ne (Ne.symm hj)] at e2
        obtain ⟨u', r', q⟩ := hl j y v' e1 e2 e3
        refine ⟨u', r', ?_⟩
        rcases q with q | ⟨k, c', e, z'⟩
        · exact .inl q
        · refine .inr ⟨k, c', e, z'.sameBut hs ?_⟩
          rintro rfl
          exact hj (nodup_ix hN e1 (I.ok.inj _ _ _ e hc ▸ hi))
    · by_cases hcc : c' = c
      · subst hcc; exact ⟨_, hc'⟩
      · obtain ⟨w2, z2⟩ := I.cell y c' e
        exact ⟨w2, z2.sameBut hs hcc⟩
    · obtain ⟨e, n, ne, nf, d⟩ := I.pin p hp
      refine ⟨(hs.2 p.1 ?_).trans e, n, ne, nf, d⟩
      intro q
      rw [q, hoc] at e
      have q' : oc = p.2 := Option.some.inj e
      exact d w' (by rw [← q']; exact hocd)
theorem store_ok {M : Model} {A : Around} {E : Value → Shared → Prop} {i : Nat} {x : Str} {v : V} {u : Value} {Q : Unit → Shared → Prop} (I : Inv X pins σ H s) (hN : X.N.Nodup) (hi : X.N[i]? = some x) (hx : Loc X.env.scope x) (r : RelV v u)
    (h : ∀ s', Inv X pins (σ.set i (some v)) H s' → Q () s') (hf : X.fn x = true ∨ X.env.scope.names.lookup x = some .local := by first | exact .inl rfl | exact .inr rfl | assumption) : wpAny M A (storeName X.env x u) Q E s :=
  store_ok2 I hN hi hx r (fun s' I' _ => h s' I') hf
theorem Inv.call' {s' : Shared} {ch : List Addr} (I : Inv X pins σ H s) (ho : s'.os = s.os) (u : Un (frs X.stack) ch H H' s.heap s'.heap) (hok : HOk X.prog X.w H' s'.heap) (hg : AllBare s'.gens)
    (hch : ∀ b ∈ ch, (b ∈ X.ex ∨ X.s₀.heap.objs.size ≤ b) ∧ b ≠ X.env.locals ∧ (∀ x c, X.env.cells.lookup x = some c → c ≠ b) ∧ ∀ p ∈ X.pn ++ pins, p.1 ≠ b) : Inv X pins σ H' s' := by
  obtain ⟨h', g', d', t', o'⟩ := s'
  have e : o' = s.os := ho
  subst e
  exact I.call (g' := g') (t' := t') (d' := d') u hok hg hch
end
noncomputable abbrev XK := Value → Option Addr → Hp → Prop
noncomputable abbrev St := List (Option V)
noncomputable abbrev VK := V → Hp → Prop
noncomputable abbrev TE := St → Hp → VK → Prop
noncomputable abbrev TT := St → Hp → (Bool → Hp → Prop) → Prop
noncomputable abbrev TA := St → Hp → (List V → Hp → Prop) → Prop
structure Ends where
  nx : St → Hp → Prop
  rt : VK
  bk : St → Hp → Prop := fun _ _ => False
  ct : St → Hp → Prop := fun _ _ => False
noncomputable abbrev TS := Ends → St → Hp → Prop
noncomputable def EP (X : Cx) (pins : List (Addr × Obj)) (σ : St) (Q : VK) (u : Value) (s' : Shared) : Prop := ∃ v H', Inv X pins σ H' s' ∧ RelV v u ∧ Q v H'
noncomputable def TP (X : Cx) (pins : List (Addr × Obj)) (σ : St) (Q : Bool → Hp → Prop) (b : Bool) (s' : Shared) : Prop := ∃ H', Inv X pins σ H' s' ∧ Q b H'
noncomputable def AP (X : Cx) (pins : List (Addr × Obj)) (σ : St) (Q : List V → Hp → Prop) (us : List Value) (s' : Shared) : Prop := ∃ vs H', Inv X pins σ H' s' ∧ Vals vs us ∧ Q vs H'
noncomputable def SP (X : Cx) (pins : List (Addr × Obj)) (D : Ends) (f : Flow) (s' : Shared) : Prop :=
  match f with
  | .next => ∃ σ' H', Inv X pins σ' H' s' ∧ D.nx σ' H'
  | .brk => ∃ σ' H', Inv X pins σ' H' s' ∧ D.bk σ' H'
  | .cont => ∃ σ' H', Inv X pins σ' H' s' ∧ D.ct σ' H'
  | .ret u => ∃ v σ' H', Inv X pins σ' H' s' ∧ RelV v u ∧ D.rt v H'
noncomputable def PE (X : Cx) (e : Expr) (t : TE) : Prop :=
  ∀ (pins : List (Addr × Obj)) (s : Shared) (σ : St) (H : Hp) (Q : VK), Inv X pins σ H s → t σ H Q → wpAny (model X.prog X.w) X.A (eval e X.env) (EP X pins σ Q) X.xe s
noncomputable def PT (X : Cx) (e : Expr) (t : TT) : Prop :=
  ∀ (pins : List (Addr × Obj)) (s : Shared) (σ : St) (H : Hp) (Q : Bool → Hp → Prop), Inv X pins σ H s → t σ H Q → wpAny (model X.prog X.w) X.A (isTrue e X.env (eval e X.env)) (TP X pins σ Q) X.xe s
noncomputable def PW (X : Cx) (e : Expr) (t : TT) : Prop :=
  ∀ (whole : Sem Value) (pins : List (Addr × Obj)) (s : Shared) (σ : St) (H : Hp) (Q : Bool → Hp → Prop), Inv X pins σ H s → t σ H Q → wpAny (model X.prog X.w) X.A (isTrue e X.env whole) (TP X pins σ Q) X.xe s
theorem PW.pt {X : Cx} {e : Expr} {t : TT} (h : PW X e t) : PT X e t := h _
noncomputable def PA (X : Cx) (es : List Expr) (t : TA) : Prop :=
  ∀ (pos : Pos) (pins : List (Addr × Obj)) (s : Shared) (σ : St) (H : Hp) (Q : List V → Hp → Prop), Inv X pins σ H s → t σ H Q → wpAny (model X.prog X.w) X.A (spliced (backTo pos (starEach es X.env))) (AP X pins σ Q) X.xe s
noncomputable def PS (X : Cx) (st : Stmt) (t : TS) : Prop :=
  ∀ (pins : List (Addr × Obj)) (s : Shared) (σ : St) (H : Hp) (D : Ends), Inv X pins σ H s → t D σ H → wpAny (model X.prog X.w) X.A (exec st X.env) (SP X pins D) X.xe s
noncomputable def PSs (X : Cx) (st : List Stmt) (t : TS) : Prop :=
  ∀ (pins : List (Addr × Obj)) (s : Shared) (σ : St) (H : Hp) (D : Ends), Inv X pins σ H s → t D σ H → wpAny (model X.prog X.w) X.A (execs st X.env) (SP X pins D) X.xe s
theorem thn {α : Type} {t : Sem α} {Q Q' : α → Shared → Prop} {M : Model} {A : Around} {E : Value → Shared → Prop} {s : Shared} (h : wpAny M A t Q E s) (hQ : ∀ a s, Q a s → Q' a s) : wpAny M A t Q' E s := wpAny_mono h hQ fun _ _ x => x
end L2
namespace L2
open PySem PySem.Spec PyProof.Rows
section
variable {X : Cx}
noncomputable def tVar (i : Nat) : TE := fun σ H Q => ∃ v, σ[i]? = some (some v) ∧ Q v H
noncomputable def tC (v : V) : TE := fun _ H Q => Q v H
theorem pe_var {i : Nat} {x : Str} {pos : Pos} (hN : X.N[i]? = some x) (hv : Vis X.env.scope x) (hd : (x == ("__debug__" : Str)) = false := by decide) (hcd : (x == ("__classdict__" : Str)) = false := by decide) : PE X (.Name x pos) (tVar i) := by
  intro pins s σ H Q I h
  obtain ⟨v, e, h⟩ := h
  obtain ⟨m, hn, hl⟩ := I.loc
  obtain ⟨u, r, l⟩ := hl i x v hN e hv
  have fin : EP X pins σ Q u s := ⟨v, H, I, r, h⟩
  rcases l with ⟨hk, hm⟩ | ⟨hk, c, hc, hcell⟩
  · exact wpAny_Name (wpAny_loadName_local I.ok.kind hk hn hm fin) hd
  · rcases hk with hk | hk
    · exact wpAny_Name (wpAny_loadName_cell I.ok.kind hk hc hcell fin) hd
    · exact wpAny_Name (wpAny_loadName_free I.ok.kind hk hc hcell fin hcd) hd
theorem pe_int {i j pos} : PE X (.Constant (.int i) j pos) (tC (.int i)) := fun _ _ _ H _ I h => wpAny_Constant_int ⟨.int i, H, I.tok _, ⟨_, rfl⟩, h⟩
theorem pe_bl {b j pos} : PE X (.Constant (.bool b) j pos) (tC (.bl b)) := fun _ _ _ H _ I h => Constant_bool ⟨.bl b, H, I, rfl, h⟩
theorem pe_non {j pos} : PE X (.Constant .none j pos) (tC .non) := fun _ _ _ H _ I h => Constant_none ⟨.non, H, I, rfl, h⟩
theorem pe_str {x j pos} : PE X (.Constant (.str x) j pos) (tC (.str x)) := fun _ _ _ H _ I h => Calls.Constant_str ⟨.str x, H, I.tok _, ⟨_, rfl⟩, h⟩
noncomputable def Gl (X : Cx) (x : Str) : Prop := X.env.kindOf x = some .globalImplicit
theorem ld_glob {E : Value → Shared → Prop} {pins : List (Addr × Obj)} {s : Shared} {σ : St} {H : Hp} {x : Str} {u : Value} {pos : Pos} {Q : Value → Shared → Prop} (I : Inv X pins σ H s) (hg : Gl X x) (hm : X.mg x = some u) (h : Q u s)
    (hd : (x == ("__debug__" : Str)) = false := by decide) : wpAny (model X.prog X.w) X.A (eval (.Name x pos) X.env) Q E s :=
  Calls.Name_function_global I.ok.kind hg (Calls.loadGlobal_global (by rw [I.ok.glob]; exact I.mod.glob.keeps I.bk) hm h) hd
theorem ld_blt {E : Value → Shared → Prop} {pins : List (Addr × Obj)} {s : Shared} {σ : St} {H : Hp} {x : Str} {u : Value} {pos : Pos} {Q : Value → Shared → Prop} (I : Inv X pins σ H s) (hg : Gl X x) (hm : X.mg x = none) (hv : bootBuiltins x = some u) (h : Q u s)
    (hn : x ≠ "__name__" := by decide) (hd : (x == ("__debug__" : Str)) = false := by decide) : wpAny (model X.prog X.w) X.A (eval (.Name x pos) X.env) Q E s := by
  obtain ⟨mb, h1, h2⟩ := I.mod.blt
  exact Calls.Name_function_global I.ok.kind hg (Calls.loadGlobal_builtin (by rw [I.ok.glob]; exact I.mod.glob.keeps I.bk) hm (by rw [I.ok.blt]; exact h1.keeps I.bk) ((h2 x hn).trans hv) h) hd
theorem pe_bltn {x : Str} {v : V} {u : Value} {pos : Pos} (hg : Gl X x) (hm : X.mg x = none) (hv : bootBuiltins x = some u) (r : RelV v u) (hn : x ≠ "__name__" := by decide) (hd : (x == ("__debug__" : Str)) = false := by decide) : PE X (.Name x pos) (tC v) :=
  fun _ _ _ H _ I h => ld_blt I hg hm hv ⟨v, H, I, r, h⟩ hn hd
variable {a b : Expr} {ta tb : TE} {pos : Pos}
noncomputable def tB (t : TE) : TT := fun σ H Q => t σ H fun x H1 => ∃ c, x = .bl c ∧ Q c H1
theorem pt_val {e : Expr} {t : TE} (h : PE X e t) (he : ∀ whole, isTrue e X.env whole = (do let v ← whole; standAt e.pos; holding [v] (truthy v)) := by intro _; rfl) : PT X e (tB t) := by
  intro pins s σ H Q I hw
  refine isTrue_plain (thn (h pins s σ H _ I hw) fun v s1 ⟨x, H1, I1, r1, q1⟩ => ?_) (he _)
  obtain ⟨d, rfl, q⟩ := q1
  cases r1
  exact wpAny_truthy_bool ⟨H1, I1, q⟩
variable {tA tB' : TT} {rest : List Expr}
noncomputable def tAnd (t u : TT) : TT := fun σ H Q => t σ H fun c H1 => if c = true then u σ H1 Q else Q false H1
noncomputable def tOr (t u : TT) : TT := fun σ H Q => t σ H fun c H1 => if c = true then Q true H1 else u σ H1 Q
noncomputable def tNot (t : TT) : TT := fun σ H Q => t σ H fun c H1 => Q (!c) H1
theorem pw_and1 (ha : PT X a tA) : PW X (.BoolOp .And [a] pos) tA := by
  intro wh pins s σ H Q I h
  refine isTrue_and (thn (ha pins s σ H Q I h) fun c s1 e => ?_)
  cases c with
  | true => exact isTrue_and_nil e
  | false => exact e
theorem pw_or1 (ha : PT X a tA) : PW X (.BoolOp .Or [a] pos) tA := by
  intro wh pins s σ H Q I h
  refine isTrue_or (thn (ha pins s σ H Q I h) fun c s1 e => ?_)
  cases c with
  | false => exact isTrue_or_nil e
  | true => exact e
theorem pw_and (ha : PT X a tA) (hb : PW X (.BoolOp .And (b :: rest) pos) tB') : PW X (.BoolOp .And (a :: b :: rest) pos) (tAnd tA tB') := by
  intro wh pins s σ H Q I h
  refine isTrue_and (thn (ha pins s σ H _ I h) fun c s1 ⟨H1, I1, q1⟩ => ?_)
  cases c with
  | true => exact hb wh pins s1 σ H1 Q I1 q1
  | false => exact ⟨H1, I1, q1⟩
theorem pw_or (ha : PT X a tA) (hb : PW X (.BoolOp .Or (b :: rest) pos) tB') : PW X (.BoolOp .Or (a :: b :: rest) pos) (tOr tA tB') := by
  intro wh pins s σ H Q I h
  refine isTrue_or (thn (ha pins s σ H _ I h) fun c s1 ⟨H1, I1, q1⟩ => ?_)
  cases c with
  | true => exact ⟨H1, I1, q1⟩
  | false => exact hb wh pins s1 σ H1 Q I1 q1
theorem pt_not (ha : PT X a tA) : PT X (.UnaryOp .Not a pos) (tNot tA) := by
  intro pins s σ H Q I h
  exact isTrue_not (ha pins s σ H (fun c H1 => Q (!c) H1) I h)
noncomputable def tAndV (ta tb : TE) : TE := fun σ H Q => ta σ H fun x H1 => ∃ c, x = .bl c ∧ if c = true then tb σ H1 Q else Q (.bl false) H1
noncomputable def tNotV (ta : TE) : TE := fun σ H Q => ta σ H fun x H1 => ∃ c, x = .bl c ∧ Q (.bl (!c)) H1
theorem pe_one {op} {t : TE} (h : PE X a t) : PE X (.BoolOp op [a] pos) t := fun pins s σ H Q I hw => BoolOp_one (h pins s σ H Q I hw)
theorem pe_and (ha : PE X a ta) (hb : PE X (.BoolOp .And (b :: rest) pos) tb) : PE X (.BoolOp .And (a :: b :: rest) pos) (tAndV ta tb) := by
  intro pins s σ H Q I h
  refine BoolOp_and (thn (ha pins s σ H _ I h) fun v s1 ⟨x, H1, I1, r1, q1⟩ => ?_)
  obtain ⟨c, rfl, q1⟩ := q1
  cases r1
  refine wpAny_truthy_bool ?_
  cases c with
  | true => exact hb pins s1 σ H1 Q I1 q1
  | false => exact ⟨.bl false, H1, I1, rfl, q1⟩
theorem pe_not (ha : PE X a ta) : PE X (.UnaryOp .Not a pos) (tNotV ta) := by
  intro pins s σ H Q I h
  refine UnaryOp_ (thn (ha pins s σ H _ I h) fun v s1 ⟨x, H1, I1, r1, q1⟩ => ?_)
  obtain ⟨c, rfl, q1⟩ := q1
  cases r1
  exact not_of (wpAny_truthy_bool ⟨.bl (!c), H1, I1, rfl, q1⟩)
noncomputable def tIf (t : TT) (ta tb : TE) : TE := fun σ H Q => t σ H fun c H1 => if c = true then ta σ H1 Q else tb σ H1 Q
theorem pe_ifExp {c : Expr} (hc : PT X c tA) (ha : PE X a ta) (hb : PE X b tb) : PE X (.IfExp c a b pos) (tIf tA ta tb) := by
  intro pins s σ H Q I h
  refine wpAny_IfExp (thn (hc pins s σ H _ I h) fun d s1 ⟨H1, I1, q1⟩ => ?_)
  cases d with
  | true => exact ha pins s1 σ H1 Q I1 q1
  | false => exact hb pins s1 σ H1 Q I1 q1
end
end L2
namespace L2
open PySem PySem.Spec PyProof.Rows
noncomputable def SqL (K : PySem.W.Frag) (H : Hp) (a : Addr) (xs : List V) : Prop :=
  Rd H a (.lst xs) ∨
    ∃ (o : Obj) (its : Array Value) (n : Nat), K.lookup a = some o ∧ o.cls = .type "list" ∧ o.dict = none ∧ o.data = .seq its n ∧ its.size ≤ sizeLine ∧ Vals xs its.toList
noncomputable def SqT (K : PySem.W.Frag) (H : Hp) (a : Addr) (xs : List V) : Prop :=
  Rd H a (.tup xs) ∨
    ∃ (o : Obj) (its : Array Value) (n : Nat), K.lookup a = some o ∧ o.cls = .type "tuple" ∧ o.data = .seq its n ∧ its.size ≤ sizeLine ∧ Vals xs its.toList
noncomputable def absV : Value → Option V
  | .none => some .non
  | .bool b => some (.bl b)
  | .int i _ => some (.int i)
  | .str x _ => some (.str x)
  | .bytes b _ => some (.byt b)
  | .float b _ => some (.flt b)
  | .ref a => some (.ref a)
  | .type n => some (.ty n)
  | _ => none
theorem RelV.abs {x : V} {u : Value} (r : RelV x u) : absV u = some x := by
  cases x with
  | non => cases r; rfl
  | bl _ => cases r; rfl
  | int _ => obtain ⟨t, rfl⟩ := r; rfl
  | str _ => obtain ⟨t, rfl⟩ := r; rfl
  | byt _ => obtain ⟨t, rfl⟩ := r; rfl
  | flt _ => obtain ⟨t, rfl⟩ := r; rfl
  | ref _ => cases r; rfl
  | ty _ => cases r; rfl
theorem RelV.inj {x y : V} {u : Value} (r : RelV x u) (q : RelV y u) : x = y := Option.some.inj (r.abs.symm.trans q.abs)
theorem Vals.inj : ∀ {xs ys : List V} {us : List Value}, Vals xs us → Vals ys us → xs = ys
  | _, _, _, .nil, .nil => rfl
  | _, _, _, .cons r t, .cons r' t' => by rw [r.inj r', Vals.inj t t']
section
variable {X : Cx} {pins : List (Addr × Obj)} {σ : St} {H : Hp} {s : Shared} {a : Addr} {xs ys : List V}
theorem SqL.of {K : PySem.W.Frag} (h : H a = some (.lst xs)) : SqL K H a xs := .inl (.inl h)
theorem SqT.of {K : PySem.W.Frag} (h : H a = some (.tup xs)) : SqT K H a xs := .inl (.inl h)
theorem Inv.list (I : Inv X pins σ H s) (h : SqL X.K H a xs) : ∃ its : List Value, Vals xs its ∧ PlainL s.heap a its.toArray ∧ xs.length ≤ sizeLine := by
  rcases h with h | ⟨o, its, n, hk, hc, hd, hs, hz, r⟩
  · obtain ⟨z, its, n, r, e⟩ := h.ok I.hok
    exact ⟨its, r, ⟨_, n, e, rfl, rfl, rfl⟩, z⟩
  · refine ⟨its.toList, r, ⟨o, n, I.kIn a o hk, hc, hd, by simpa using hs⟩, ?_⟩
    have e := r.length
    simp only [Array.length_toList] at e
    omega
theorem Inv.tuple (I : Inv X pins σ H s) (h : SqT X.K H a xs) : ∃ its : List Value, Vals xs its ∧ IsTup s.heap a its.toArray ∧ xs.length ≤ sizeLine := by
  rcases h with h | ⟨o, its, n, hk, hc, hs, hz, r⟩
  · obtain ⟨z, its, r, p⟩ := h.ok I.hok
    exact ⟨its, r, p.tup, z⟩
  · refine ⟨its.toList, r, ⟨o, I.kIn a o hk, hc, n, by simpa using hs⟩, ?_⟩
    have e := r.length
    simp only [Array.length_toList] at e
    omega
theorem Inv.list_inj (I : Inv X pins σ H s) (h : SqL X.K H a xs) (h' : SqL X.K H a ys) : xs = ys := by
  obtain ⟨its, r, ⟨o, n, e, _, _, d⟩, _⟩ := I.list h
  obtain ⟨its', r', ⟨o', n', e', _, _, d'⟩, _⟩ := I.list h'
  rw [e] at e'; cases e'
  rw [d] at d'
  injection d' with d1 _
  have : its = its' := by simpa using congrArg Array.toList d1
  subst this
  exact r.inj r'
theorem Inv.tuple_inj (I : Inv X pins σ H s) (h : SqT X.K H a xs) (h' : SqT X.K H a ys) : xs = ys := by
  obtain ⟨its, r, ⟨o, e, _, n, d⟩, _⟩ := I.tuple h
  obtain ⟨its', r', ⟨o', e', _, n', d'⟩, _⟩ := I.tuple h'
  rw [e] at e'; cases e'
  rw [d] at d'
  injection d' with d1 _
  have : its = its' := by simpa using congrArg Array.toList d1
  subst this
  exact r.inj r'
end
noncomputable abbrev Cx.wish (X : Cx) (E : Value → Shared → Prop) : Cx := { X with xe := E }
noncomputable abbrev Cx.nox (X : Cx) : Cx := X.wish fun _ _ => False
theorem Cx.Ok.wish {X : Cx} (ok : X.Ok) (E : Value → Shared → Prop) : (X.wish E).Ok :=
  ⟨ok.mod, ok.kind, ok.glob, ok.blt, ok.above, ok.inj, ok.has, ok.cab, ok.hd, ok.frames, ok.stk, ok.exf, ok.bs, ok.bsz, ok.noex, ok.exfs, ok.funs, ok.frf⟩
theorem Cx.Ok.unwish {X : Cx} {E : Value → Shared → Prop} (ok : (X.wish E).Ok) : X.Ok :=
  ⟨ok.mod, ok.kind, ok.glob, ok.blt, ok.above, ok.inj, ok.has, ok.cab, ok.hd, ok.frames, ok.stk, ok.exf, ok.bs, ok.bsz, ok.noex, ok.exfs, ok.funs, ok.frf⟩
section
variable {X : Cx} {pins : List (Addr × Obj)} {σ : St} {H : Hp} {s : Shared} {E : Value → Shared → Prop}
theorem Inv.wish (I : Inv X pins σ H s) (E : Value → Shared → Prop) : Inv (X.wish E) pins σ H s := ⟨I.ok.wish E, I.os, I.bare, I.base, I.loc, I.cell, I.free, I.freeC, I.pin, I.hok, I.len⟩
theorem Inv.unwish (I : Inv (X.wish E) pins σ H s) : Inv X pins σ H s := ⟨I.ok.unwish, I.os, I.bare, I.base, I.loc, I.cell, I.free, I.freeC, I.pin, I.hok, I.len⟩
theorem SP.unwish {D : Ends} {f : Flow} {s' : Shared} (h : SP (X.wish E) pins D f s') : SP X pins D f s' := by
  cases f with
  | next => obtain ⟨σ', H', I, q⟩ := h; exact ⟨σ', H', I.unwish, q⟩
  | brk => obtain ⟨σ', H', I, q⟩ := h; exact ⟨σ', H', I.unwish, q⟩
  | cont => obtain ⟨σ', H', I, q⟩ := h; exact ⟨σ', H', I.unwish, q⟩
  | ret u => obtain ⟨v, σ', H', I, r, q⟩ := h; exact ⟨v, σ', H', I.unwish, r, q⟩
theorem PE.nox {e : Expr} {t : TE} (h : PE X.nox e t) : PE X e t := fun pins s σ H Q I hw =>
  wpAny_mono (h pins s σ H Q (I.wish _) hw) (fun _ _ ⟨v, H', I', r, q⟩ => ⟨v, H', I'.unwish, r, q⟩) fun _ _ z => False.elim z
theorem PT.nox {e : Expr} {t : TT} (h : PT X.nox e t) : PT X e t := fun pins s σ H Q I hw =>
  wpAny_mono (h pins s σ H Q (I.wish _) hw) (fun _ _ ⟨H', I', q⟩ => ⟨H', I'.unwish, q⟩) fun _ _ z => False.elim z
theorem PSs.nox {st : List Stmt} {t : TS} (h : PSs X.nox st t) : PSs X st t := fun pins s σ H D I hw =>
  wpAny_mono (h pins s σ H D (I.wish _) hw) (fun _ _ q => q.unwish) fun _ _ z => False.elim z
end
section
variable {X : Cx} {st : Stmt} {rest : List Stmt} {t u : TS} {e : Expr} {te : TE} {pos : Pos}
noncomputable def tNext : TS := fun D σ H => D.nx σ H
noncomputable def tSeq (t u : TS) : TS := fun D σ H => t { D with nx := u D } σ H
theorem pss_nil : PSs X [] tNext := fun _ _ σ H _ I h => wpAny_execs_nil ⟨σ, H, I, h⟩
theorem pss_cons (h1 : PS X st t) (h2 : PSs X rest u) : PSs X (st :: rest) (tSeq t u) := by
  intro pins s σ H D I h
  refine wpAny_execs_cons (thn (h1 pins s σ H { D with nx := u D } I h) fun f s1 q => ?_)
  cases f with
  | next =>
    obtain ⟨σ', H', I', q⟩ := q
    exact h2 pins s1 σ' H' D I' q
  | ret v => exact q
  | brk => exact q
  | cont => exact q
theorem pss_one (h1 : PS X st t) : PSs X [st] t := by
  intro pins s σ H D I h
  refine wpAny_execs_cons (thn (h1 pins s σ H D I h) fun f s1 q => ?_)
  cases f with
  | next => exact wpAny_execs_nil q
  | ret v => exact q
  | brk => exact q
  | cont => exact q
theorem Inv.quiet {pins : List (Addr × Obj)} {σ : St} {H : Hp} {s : Shared} (I : Inv X pins σ H s) : interactive X.env = false := by simp [interactive, I.ok.kind]
noncomputable def tDrop (te : TE) : TS := fun D σ H => te σ H fun _ H1 => D.nx σ H1
theorem ps_expr (he : PE X e te) (hs : swapsWith e none pos.line X.env = pure false := by rfl) : PS X (.Expr e pos) (tDrop te) := by
  intro pins s σ H D I h
  exact wpAny_Expr_any (thn (he pins s σ H _ I h) fun v s1 ⟨x, H1, I1, r1, q1⟩ => ⟨σ, H1, I1, q1⟩) I.quiet hs
noncomputable def tRet (te : TE) : TS := fun D σ H => te σ H D.rt
theorem ps_ret (he : PE X e te) : PS X (.Return (some e) pos) (tRet te) := by
  intro pins s σ H D I h
  exact wpAny_Return_some (thn (he pins s σ H _ I h) fun v s1 ⟨x, H1, I1, r1, q1⟩ => ⟨x, σ, H1, I1, r1, q1⟩)
noncomputable def tIfS (c : TT) (t u : TS) : TS := fun D σ H => c σ H fun b H1 => if b = true then t D σ H1 else u D σ H1
theorem ps_if {c : Expr} {a b : List Stmt} {tc : TT} (hc : PT X c tc) (ha : PSs X a t) (hb : PSs X b u) : PS X (.If c a b pos) (tIfS tc t u) := by
  intro pins s σ H D I h
  refine wpAny_If (thn (hc pins s σ H _ I h) fun d s1 ⟨H1, I1, q1⟩ => ?_)
  cases d with
  | true => exact ha pins s1 σ H1 D I1 q1
  | false => exact hb pins s1 σ H1 D I1 q1
end
noncomputable abbrev TG := V → St → Hp → (St → Hp → Prop) → Prop
noncomputable abbrev TGs := List V → St → Hp → (St → Hp → Prop) → Prop
noncomputable def PG (X : Cx) (target : Expr) (t : TG) : Prop :=
  ∀ (pins : List (Addr × Obj)) (s : Shared) (σ : St) (H : Hp) (v : V) (u : Value) (Q : St → Hp → Prop), Inv X pins σ H s → RelV v u → t v σ H Q →
    wpAny (model X.prog X.w) X.A (assign target X.env u) (fun _ s' => ∃ σ' H', Inv X pins σ' H' s' ∧ Q σ' H') X.xe s
noncomputable def PGs (X : Cx) (ts : List Expr) (t : TGs) : Prop :=
  ∀ (pins : List (Addr × Obj)) (s : Shared) (σ : St) (H : Hp) (vs : List V) (us : List Value) (Q : St → Hp → Prop), Inv X pins σ H s → Vals vs us → t vs σ H Q →
    wpAny (model X.prog X.w) X.A (assignInOrder ((assignEach ts X.env).map (·.2)) us) (fun _ s' => ∃ σ' H', Inv X pins σ' H' s' ∧ Q σ' H') X.xe s
noncomputable abbrev TSet := V → V → V → Hp → (Hp → Prop) → Prop
noncomputable def PSet (X : Cx) (t : TSet) : Prop :=
  ∀ (pins : List (Addr × Obj)) (s : Shared) (σ : St) (H : Hp) (o i v : V) (ov iv u : Value) (Q : Hp → Prop), Inv X pins σ H s → RelV o ov → RelV i iv → RelV v u → t o i v H Q →
    wpAny (model X.prog X.w) X.A (setItem ov iv u) (fun _ s' => ∃ H', Inv X pins σ H' s' ∧ Q H') X.xe s
section
variable {X : Cx} {pos : Pos}
noncomputable def gName (i : Nat) : TG := fun v σ H Q => Q (σ.set i (some v)) H
theorem pg_name {i : Nat} {x : Str} (hN : X.N.Nodup) (hi : X.N[i]? = some x) (hx : Loc X.env.scope x) (hf : X.fn x = true ∨ X.env.scope.names.lookup x = some .local := by first | exact .inl rfl | exact .inr rfl | assumption) : PG X (.Name x pos) (gName i) := by
  intro pins s σ H v u Q I r h
  exact wpAny_assign_Name (store_ok I hN hi hx r (fun s' I' => ⟨_, H, I', h⟩) hf)
noncomputable def gNil : TGs := fun vs σ H Q => vs = [] ∧ Q σ H
noncomputable def gCons (t : TG) (u : TGs) : TGs := fun vs σ H Q => ∃ v r, vs = v :: r ∧ t v σ H fun σ' H' => u r σ' H' Q
theorem pgs_nil : PGs X [] gNil := by
  intro pins s σ H vs us Q I r h
  obtain ⟨e, h⟩ := h
  subst e
  cases r
  exact assignInOrder_nil ⟨σ, H, I, h⟩
theorem pgs_cons {e : Expr} {es : List Expr} {t : TG} {u : TGs} (h1 : PG X e t) (h2 : PGs X es u)
    (hs : (assignEach (e :: es) X.env).map (·.2) = assign e X.env :: (assignEach es X.env).map (·.2) := by rfl) : PGs X (e :: es) (gCons t u) := by
  intro pins s σ H vs us Q I r h
  obtain ⟨v, vr, e1, h⟩ := h
  subst e1
  cases r with
  | cons r rr =>
    rw [hs]
    refine assignInOrder_cons (thn (h1 pins s σ H _ _ _ I r h) fun _ s1 ⟨σ1, H1, I1, q1⟩ => ?_)
    exact h2 pins s1 σ1 H1 _ _ Q I1 rr q1
noncomputable def gTup (K : PySem.W.Frag) (n : Nat) (t : TGs) : TG := fun v σ H Q => ∃ a xs, v = .ref a ∧ SqT K H a xs ∧ xs.length = n ∧ t xs σ H Q
theorem pg_tup {es : List Expr} {k : Nat} {t : TGs} {n : Nat} (hc : X.calm = true) (h : PGs X es t)
    (hn : (assignEach es X.env).length = n := by rfl) (hst : (assignEach es X.env).findIdx? (·.1) = none := by rfl) : PG X (.Tuple es k pos) (gTup X.K n t) := by
  intro pins s σ H v u Q I r hw
  obtain ⟨a, xs, e1, hq, hl, hw⟩ := hw
  subst e1
  cases r
  obtain ⟨its, rv, ht, hz⟩ := I.tuple hq
  refine assign_Tuple_tuple (I.ok.hd hc) ht (by simp [hn, ← hl, rv.length]) hst fun h' hx => ?_
  have I1 : Inv X pins σ H { s with heap := h' } := I.kept (t' := s.toks) fun b o e => hx b o (Nat.ne_of_lt (Heap.lt_size e)) e
  exact h pins _ σ H xs _ Q I1 (by simpa using rv) hw
noncomputable def gSub (to ti : TE) (t : TSet) : TG := fun v σ H Q => to σ H fun o H1 => ti σ H1 fun i H2 => t o i v H2 fun H3 => Q σ H3
theorem pg_sub {o i : Expr} {to ti : TE} {t : TSet} (ho : PE X o to) (hi : PE X i ti) (hs : PSet X t)
    (ha : ∀ v, assign (.Subscript o i pos) X.env v = (do
      let ov ← holding [v] (eval o X.env)
      let iv ← holding [v, ov] (eval i X.env)
      standAt pos
      holding [v, ov, iv] (setItem ov iv v)
      release [v, ov, iv] []) := by intro _; rfl) : PG X (.Subscript o i pos) (gSub to ti t) := by
  intro pins s σ H v u Q I r h
  rw [ha]
  refine wpAny_bind (wpAny_holding (thn (ho pins s σ H _ I h) fun ov s1 ⟨x, H1, I1, r1, q1⟩ => ?_))
  refine wpAny_bind (wpAny_holding (thn (hi pins s1 σ H1 _ I1 q1) fun iv s2 ⟨y, H2, I2, r2, q2⟩ => ?_))
  refine wpAny_bind (wpAny_standAt (wpAny_bind (wpAny_holding (thn (hs pins s2 σ H2 x y v ov iv u _ I2 r1 r2 r q2) fun _ s3 ⟨H3, I3, q3⟩ => ?_))))
  exact wpAny_release ⟨σ, H3, I3, q3⟩
noncomputable def tAsg (te : TE) (g : TG) : TS := fun D σ H => te σ H fun x H1 => g x σ H1 D.nx
theorem ps_asg {tg e : Expr} {te : TE} {g : TG} (he : PE X e te) (hg : PG X tg g) (hs : swapsWithSole [tg] e pos.line X.env = pure false := by rfl) (hw : swappedStores [tg] e X.env = pure none := by rfl)
    (h1 : (assignEach [tg] X.env).map (·.2) = [assign tg X.env] := by rfl) : PS X (.Assign [tg] e pos) (tAsg te g) := by
  intro pins s σ H D I h
  refine wpAny_Assign_stores (thn (he pins s σ H _ I h) fun v s1 ⟨x, H1, I1, r1, q1⟩ => ?_) hs hw
  rw [h1]
  exact thn (hg pins s1 σ H1 x v _ I1 r1 q1) fun _ s2 q => q
theorem ps_set {i : Nat} {x : Str} {e : Expr} {te : TE} {pos' : Pos} (hN : X.N.Nodup) (hi : X.N[i]? = some x) (hx : Loc X.env.scope x) (he : PE X e te) (hs : swapsWith e (some (.Name x pos')) pos.line X.env = pure false := by rfl) (hf : X.fn x = true ∨ X.env.scope.names.lookup x = some .local := by first | exact .inl rfl | exact .inr rfl | assumption) :
    PS X (.Assign [.Name x pos'] e pos) (tAsg te (gName i)) := by
  intro pins s σ H D I h
  refine wpAny_Assign_Name (thn (he pins s σ H _ I h) fun v s1 ⟨y, H1, I1, r1, q1⟩ => ?_) hs
  exact store_ok I1 hN hi hx r1 (fun s2 I2 => ⟨_, H1, I2, q1⟩) hf
end
section
variable {X : Cx} {pos : Pos}
noncomputable def tWhile (c : TT) (tb : TS) : TS := fun D σ H => ∃ W : Nat → St → Hp → Prop, (∃ m, W m σ H) ∧ ∀ m σ H, W m σ H →
  c σ H fun b H1 => if b = true then ∃ N : St → Hp → Prop, (∀ σ' H', N σ' H' → ∃ m', m' < m ∧ W m' σ' H') ∧ tb { D with nx := N, ct := N, bk := D.nx } σ H1 else D.nx σ H1
theorem ps_while {c : Expr} {body : List Stmt} {tc : TT} {tb : TS} (hp : PassesOwn (model X.prog X.w) X.A X.env X.xe) (hc : PT X c tc) (hb : PSs X body tb) : PS X (.While c body [] pos) (tWhile tc tb) := by
  intro pins s σ H D I h
  obtain ⟨W, ⟨m0, w0⟩, turn⟩ := h
  refine wpAny_While (codeAny_whileLoop (fun n s' => ∃ σ' H', Inv X pins σ' H' s' ∧ W n σ' H') ?_ m0 ⟨σ, H, I, w0⟩)
  rintro n s1 ⟨σ1, H1, I1, w1⟩
  refine wpAny_passesOwn hp (thn (hc pins s1 σ1 H1 _ I1 (turn n σ1 H1 w1)) fun b s2 ⟨H2, I2, q2⟩ => ?_)
  cases b with
  | true =>
    obtain ⟨N, hN, q2⟩ := q2
    rw [if_pos rfl]
    refine wpAny_passesOwn hp (thn (hb pins s2 σ1 H2 _ I2 q2) fun f s3 q3 => ?_)
    cases f with
    | next =>
      obtain ⟨σ3, H3, I3, n3⟩ := q3
      obtain ⟨m', hm, w3⟩ := hN σ3 H3 n3
      exact ⟨m', hm, σ3, H3, I3, w3⟩
    | cont =>
      obtain ⟨σ3, H3, I3, n3⟩ := q3
      obtain ⟨m', hm, w3⟩ := hN σ3 H3 n3
      exact ⟨m', hm, σ3, H3, I3, w3⟩
    | brk => exact q3
    | ret v => exact q3
  | false =>
    rw [if_neg Bool.false_ne_true]
    exact wpAny_execs_nil ⟨σ1, H2, I2, q2⟩
end
structure It where
  go : Nat → Hp → Prop
  yld : Nat → Hp → V → Hp → Prop
  stop : Nat → Hp → Prop
noncomputable def FpOk (X : Cx) (pins : List (Addr × Obj)) (H : Hp) (b : Addr) : Prop :=
  H b = none ∧ b ≠ X.env.locals ∧ b ∉ X.fs ∧ (b ∈ X.ex ∨ X.s₀.heap.objs.size ≤ b) ∧ (∀ x c, X.env.cells.lookup x = some c → c ≠ b) ∧ ∀ p ∈ X.pn ++ pins, p.1 ≠ b
theorem Inv.fpOk {X : Cx} {pins : List (Addr × Obj)} {σ : St} {H H' : Hp} {s : Shared} {b : Addr} (I : Inv X pins σ H s) (hb : s.heap.objs.size ≤ b) (hn : H' b = none) : FpOk X pins H' b := by
  refine ⟨hn, Nat.ne_of_gt (Nat.lt_of_lt_of_le I.lt hb), I.nofs hb, .inr (Nat.le_trans I.sz hb), fun x c e z => ?_, fun p hp z => ?_⟩
  · obtain ⟨v, q⟩ := I.cell x c e
    exact absurd (Nat.lt_of_lt_of_le q.lt (by rw [z]; exact hb)) (Nat.lt_irrefl _)
  · exact absurd (Nat.lt_of_lt_of_le (Heap.lt_size (I.pin p hp).1) (by rw [z]; exact hb)) (Nat.lt_irrefl _)
structure Turn (P : Program) (w : World) (K : PySem.W.Frag) (tg : Expr) (J : It) (fp : List Addr) (it : Addr) (tn : Nat → Heap → Prop) : Prop where
  mem : it ∈ fp
  obj : ∀ i h, tn i h → ∀ b ∈ fp, ∃ o, h.get? b = some o ∧ ∀ v, o.data ≠ .cell v
  keep : ∀ i h h', tn i h → (∀ b ∈ fp, ∀ o, h.get? b = some o → h'.get? b = some o) → tn i h'
  item : ∀ (X : Cx), X.prog = P → X.w = w → X.K = K → X.calm = true → ∀ (i : Nat) (pins : List (Addr × Obj)) (s : Shared) (σ : St) (H : Hp) (E : Value → Shared → Prop), Inv X pins σ H s → (∀ b ∈ fp, FpOk X pins H b) → tn i s.heap → J.go i H →
    wpAny (model P w) X.A (pyNext (.ref it)) (fun r s1 => ∃ u, r = some u ∧
      wpAny (model P w) X.A (letOwnedTupleGo tg (.ref it) u) (fun _ s2 => ∃ x H', Inv X pins σ H' s2 ∧ RelV x u ∧ J.yld i H x H' ∧ tn (i + 1) s2.heap ∧ ∀ b ∈ fp, H' b = none) E s1) E s
  done : ∀ (X : Cx), X.prog = P → X.w = w → X.K = K → X.calm = true → ∀ (i : Nat) (pins : List (Addr × Obj)) (s : Shared) (σ : St) (H : Hp) (E : Value → Shared → Prop), Inv X pins σ H s → (∀ b ∈ fp, FpOk X pins H b) → tn i s.heap → J.stop i H →
    wpAny (model P w) X.A (pyNext (.ref it)) (fun r s1 => r = none ∧ Inv X pins σ H s1) E s
  self : ∀ (A : Around) (i : Nat) (s : Shared) (Q : Value → Shared → Prop) (E : Value → Shared → Prop), tn i s.heap → Q (.ref it) s → wpAny (model P w) A (pyIter (.ref it)) Q E s
noncomputable abbrev TI := St → Hp → (It → Hp → Prop) → Prop
noncomputable def PIE (X : Cx) (pins : List (Addr × Obj)) (σ : St) (tg : Expr) (R : It → Hp → Prop) (itv : Value) (s2 : Shared) : Prop :=
  ∃ (it : Addr) (fp : List Addr) (tn : Nat → Heap → Prop) (J : It) (H' : Hp), itv = .ref it ∧ Inv X pins σ H' s2 ∧ Turn X.prog X.w X.K tg J fp it tn ∧ tn 0 s2.heap ∧ (∀ b ∈ fp, FpOk X pins H' b) ∧ R J H'
noncomputable def PI (X : Cx) (tg iter : Expr) (wi : TI) : Prop :=
  ∀ (pins : List (Addr × Obj)) (s : Shared) (σ : St) (H : Hp) (R : It → Hp → Prop), Inv X pins σ H s → wi σ H R →
    wpAny (model X.prog X.w) X.A (eval iter X.env) (fun v s1 => wpAny (model X.prog X.w) X.A (pyIter v) (PIE X pins σ tg R) X.xe s1) X.xe s
theorem go_of {M : Model} {A : Around} {E : Value → Shared → Prop} {s : Shared} {tg : Expr} {it : Addr} {u : Value} {o : Obj} {n : String} {vs : Array Value} {Q : Unit → Shared → Prop} (ho : s.heap.get? it = some o) (hc : o.cls = .type n) (hd : o.data = .fields vs)
    (hn : ["enumerate", "zip", "dict_itemiterator", "dict_reverseitemiterator", "odict_iterator", "itertools.zip_longest", "itertools.pairwise"].contains n = false) (hQ : Q () s) : wpAny M A (letOwnedTupleGo tg (.ref it) u) Q E s := by
  unfold letOwnedTupleGo
  cases tg <;> first
    | exact wpAny_pure hQ
    | (cases u <;> first
        | exact wpAny_pure hQ
        | (refine wpAny_bind (wpAny_load ho ?_)
           rw [hc, hd]
           show wpAny M A (if (["enumerate", "zip", "dict_itemiterator", "dict_reverseitemiterator", "odict_iterator", "itertools.zip_longest", "itertools.pairwise"].contains n && vs[0]? == some (rawInt _)) = true then _ else _) Q E s
           rw [if_neg (by intro h; rw [hn, Bool.false_and] at h; cases h)]
           exact wpAny_pure hQ))
noncomputable def Itl (K : PySem.W.Frag) (a : Addr) : It :=
  ⟨fun i H => ∃ xs x, SqL K H a xs ∧ xs[i]? = some x, fun i H x H' => H' = H ∧ ∀ xs, SqL K H a xs → xs[i]? = some x, fun i H => ∃ xs, SqL K H a xs ∧ xs.length ≤ i⟩
noncomputable def Itt (K : PySem.W.Frag) (a : Addr) : It :=
  ⟨fun i H => ∃ xs x, SqT K H a xs ∧ xs[i]? = some x, fun i H x H' => H' = H ∧ ∀ xs, SqT K H a xs → xs[i]? = some x, fun i H => ∃ xs, SqT K H a xs ∧ xs.length ≤ i⟩
noncomputable def Itr (lo : Int) (n : Nat) : It := ⟨fun i _ => i < n, fun i H x H' => H' = H ∧ x = .int (lo + i), fun i _ => n ≤ i⟩
theorem turn_list {P : Program} {w : World} {K : PySem.W.Frag} {tg : Expr} (a it : Addr) : Turn P w K tg (Itl K a) [it] it (fun i h => h.IsListIter it a i) where
  mem := by simp
  obj := fun i h st b hb => by
    have e : b = it := by simpa using hb
    subst e
    obtain ⟨o, e, c, d⟩ := st
    exact ⟨o, e, fun v z => by rw [d] at z; cases z⟩
  keep := fun i h h' st k => st.at fun o e => k it (by simp) o e
  item := by
    intro X hP hw hK hc i pins s σ H E I hf st hg
    subst hP hw hK
    obtain ⟨xs, x, hq, hx⟩ := hg
    obtain ⟨its, rv, p, hz⟩ := I.list hq
    obtain ⟨u, hu, ru⟩ := rv.get hx
    obtain ⟨f0, f1, f2, f3, f4, f5⟩ := hf it (by simp)
    refine wpAny_pyNext_list_item st p.isList (x := u) (by simpa using hu) fun h' st' sb => ?_
    have I1 : Inv X pins σ H { s with heap := h' } := I.turned (t' := s.toks) (fun b o hb e => (sb.2 b hb).trans e) f0 f1 f3 f4 f5
    obtain ⟨o, e, c, d⟩ := id st'
    exact ⟨u, rfl, go_of (s := { s with heap := h' }) e c d (by decide) ⟨x, H, I1, ru, ⟨rfl, fun ys hy => by rw [I.list_inj hy hq]; exact hx⟩, st', fun b hb => (hf b hb).1⟩⟩
  done := by
    intro X hP hw hK hc i pins s σ H E I hf st hg
    subst hP hw hK
    obtain ⟨xs, hq, hx⟩ := hg
    obtain ⟨its, rv, p, hz⟩ := I.list hq
    obtain ⟨f0, f1, f2, f3, f4, f5⟩ := hf it (by simp)
    have hl := rv.length
    exact wpAny_pyNext_list_end (I.ok.hd hc) st p.isList (by simp; omega) fun h' eb => ⟨rfl, I.turned (t' := s.toks) (fun b o hb e => eb b o hb e) f0 f1 f3 f4 f5⟩
  self := fun _ _ _ _ _ st h => wpAny_pyIter_listiter st h
theorem turn_tuple {P : Program} {w : World} {K : PySem.W.Frag} {tg : Expr} (a it : Addr) : Turn P w K tg (Itt K a) [it] it (fun i h => h.IsTupleIter it a i) where
  mem := by simp
  obj := fun i h st b hb => by
    have e : b = it := by simpa using hb
    subst e
    obtain ⟨o, e, c, d⟩ := st
    exact ⟨o, e, fun v z => by rw [d] at z; cases z⟩
  keep := fun i h h' st k => st.at fun o e => k it (by simp) o e
  item := by
    intro X hP hw hK hc i pins s σ H E I hf st hg
    subst hP hw hK
    obtain ⟨xs, x, hq, hx⟩ := hg
    obtain ⟨its, rv, p, hz⟩ := I.tuple hq
    obtain ⟨u, hu, ru⟩ := rv.get hx
    obtain ⟨f0, f1, f2, f3, f4, f5⟩ := hf it (by simp)
    refine wpAny_pyNext_tuple_item st (show s.heap.IsTuple a its.toArray from p) (x := u) (by simpa using hu) fun h' st' sb => ?_
    have I1 : Inv X pins σ H { s with heap := h' } := I.turned (t' := s.toks) (fun b o hb e => (sb.2 b hb).trans e) f0 f1 f3 f4 f5
    obtain ⟨o, e, c, d⟩ := id st'
    exact ⟨u, rfl, go_of (s := { s with heap := h' }) e c d (by decide) ⟨x, H, I1, ru, ⟨rfl, fun ys hy => by rw [I.tuple_inj hy hq]; exact hx⟩, st', fun b hb => (hf b hb).1⟩⟩
  done := by
    intro X hP hw hK hc i pins s σ H E I hf st hg
    subst hP hw hK
    obtain ⟨xs, hq, hx⟩ := hg
    obtain ⟨its, rv, p, hz⟩ := I.tuple hq
    obtain ⟨f0, f1, f2, f3, f4, f5⟩ := hf it (by simp)
    have hl := rv.length
    exact wpAny_pyNext_tuple_end (I.ok.hd hc) st (show s.heap.IsTuple a its.toArray from p) (by simp; omega) fun h' eb => ⟨rfl, I.turned (t' := s.toks) (fun b o hb e => eb b o hb e) f0 f1 f3 f4 f5⟩
  self := fun _ _ _ _ _ st h => wpAny_pyIter_tupleiter st h
theorem turn_range {P : Program} {w : World} {K : PySem.W.Frag} {tg : Expr} (it : Addr) (lo : Int) (n : Nat) : Turn P w K tg (Itr lo n) [it] it (fun i h => IsRangeIter h it (lo + (i : Nat) * 1) ((n : Int) - (i : Nat)) 1) where
  mem := by simp
  obj := fun i h st b hb => by
    have e : b = it := by simpa using hb
    subst e
    exact ⟨_, st, fun v z => by
      have z' : Data.fields _ = Data.cell v := z
      cases z'⟩
  keep := fun i h h' st k => k it (by simp) _ st
  item := by
    intro X hP hw hK hc i pins s σ H E I hf st hg
    subst hP hw hK
    obtain ⟨f0, f1, f2, f3, f4, f5⟩ := hf it (by simp)
    have W := Walks.range (prog := X.prog) (w := X.w) (I.ok.hd hc) it lo 1 n
    refine W.item i s _ _ hg st fun v h' tk hv st' kk => ?_
    obtain ⟨t, rfl⟩ := hv
    have I1 : Inv X pins σ H { s with heap := h', toks := tk } := I.turned (fun b o hb e => kk b o (by simpa using hb) e) f0 f1 f3 f4 f5
    refine ⟨_, rfl, go_of (s := { s with heap := h', toks := tk }) (n := "range_iterator") st' rfl rfl (by decide) ⟨.int (lo + i), H, I1, ⟨t, ?_⟩, ⟨rfl, rfl⟩, st', fun b hb => (hf b hb).1⟩⟩
    rw [Int.mul_one]
  done := by
    intro X hP hw hK hc i pins s σ H E I hf st hg
    subst hP hw hK
    obtain ⟨f0, f1, f2, f3, f4, f5⟩ := hf it (by simp)
    exact wpAny_pyNext_range_end (I.ok.hd hc) st (by have : n ≤ i := hg; omega) fun h' eb => ⟨rfl, I.turned (t' := s.toks) (fun b o hb e => eb b o hb e) f0 f1 f3 f4 f5⟩
  self := fun _ _ _ _ _ st h => wpAny_pyIter_rangeiter st h
end L2
namespace L2
open PySem PySem.Spec PyProof.Rows
section
variable {X : Cx} {tg : Expr}
noncomputable def iList (K : PySem.W.Frag) (tl : TE) : TI := fun σ H R => tl σ H fun x H1 => ∃ a, x = .ref a ∧ (∃ xs, SqL K H1 a xs) ∧ R (Itl K a) H1
noncomputable def iTup (K : PySem.W.Frag) (tl : TE) : TI := fun σ H R => tl σ H fun x H1 => ∃ a, x = .ref a ∧ (∃ xs, SqT K H1 a xs) ∧ R (Itt K a) H1
theorem pi_list {l : Expr} {tl : TE} (hl : PE X l tl) : PI X tg l (iList X.K tl) := by
  intro pins s σ H R I h
  refine thn (hl pins s σ H _ I h) fun v s1 ⟨x, H1, I1, r1, q1⟩ => ?_
  obtain ⟨a, e, ⟨xs, hq⟩, q⟩ := q1
  subst e
  cases r1
  obtain ⟨its, rv, p, hz⟩ := I1.list hq
  refine wpAny_pyIter_list p.isList ?_
  refine ⟨s1.heap.objs.size, [s1.heap.objs.size], _, _, H1, rfl, I1.kept (t' := s1.toks) fun b o e => Heap.get?_push_of_some _ e, turn_list a _, ⟨_, Heap.get?_push_size _ rfl, rfl, rfl⟩, fun b hb => ?_, q⟩
  have e : b = s1.heap.objs.size := by simpa using hb
  subst e
  exact I1.fpOk (Nat.le_refl _) (I1.hok.fresh (Nat.le_refl _))
theorem pi_tup {l : Expr} {tl : TE} (hl : PE X l tl) : PI X tg l (iTup X.K tl) := by
  intro pins s σ H R I h
  refine thn (hl pins s σ H _ I h) fun v s1 ⟨x, H1, I1, r1, q1⟩ => ?_
  obtain ⟨a, e, ⟨xs, hq⟩, q⟩ := q1
  subst e
  cases r1
  obtain ⟨its, rv, p, hz⟩ := I1.tuple hq
  refine wpAny_pyIter_tuple (show s1.heap.IsTuple a its.toArray from p) ?_
  refine ⟨s1.heap.objs.size, [s1.heap.objs.size], _, _, H1, rfl, I1.kept (t' := s1.toks) fun b o e => Heap.get?_push_of_some _ e, turn_tuple a _, ⟨_, Heap.get?_push_size _ rfl, rfl, rfl⟩, fun b hb => ?_, q⟩
  have e : b = s1.heap.objs.size := by simpa using hb
  subst e
  exact I1.fpOk (Nat.le_refl _) (I1.hok.fresh (Nat.le_refl _))
theorem range_it {pins : List (Addr × Obj)} {σ : St} {H : Hp} {s : Shared} {R : It → Hp → Prop} {E : Value → Shared → Prop} {lo hi : Int} {t u v : Tok} {tk : Nat} (I : Inv X pins σ H s) (h1 : -(2 ^ 62) ≤ lo) (h2 : lo < 2 ^ 62) (h3 : -(2 ^ 62) ≤ hi) (h4 : hi < 2 ^ 62)
    (q : R (Itr lo (hi - lo).toNat) H) : wpAny (model X.prog X.w) X.A (pyIter (.ref s.heap.objs.size)) (PIE X pins σ tg R) E { s with heap := s.heap.push { cls := .type "range", data := .fields #[.int lo t, .int hi u, .int 1 v] }, toks := tk } := by
  refine wpAny_pyIter_range (IsRange.new ..) (small_one h1 h2 h3 h4) ?_
  have I1 : Inv X pins σ H { s with heap := s.heap.push { cls := .type "range", data := .fields #[.int lo t, .int hi u, .int 1 v] }, toks := tk } := I.kept fun b o e => Heap.get?_push_of_some _ e
  refine ⟨(s.heap.push { cls := .type "range", data := .fields #[.int lo t, .int hi u, .int 1 v] }).objs.size, [(s.heap.push { cls := .type "range", data := .fields #[.int lo t, .int hi u, .int 1 v] }).objs.size], _, _, H, rfl,
    I1.kept (t' := tk) fun b o e => Heap.get?_push_of_some _ e, turn_range _ lo (hi - lo).toNat, ?_, fun b hb => ?_, q⟩
  · have e1 : lo + ((0 : Nat) : Int) * 1 = lo := by simp
    have e2 : (((hi - lo).toNat : Nat) : Int) - ((0 : Nat) : Int) = Builtin.Range.rangeSize lo hi 1 := by rw [rangeSize_one]; split <;> omega
    show IsRangeIter _ _ (lo + ((0 : Nat) : Int) * 1) ((((hi - lo).toNat : Nat) : Int) - ((0 : Nat) : Int)) 1
    rw [e1, e2]
    exact Heap.get?_push_size _ rfl
  · have e : b = (s.heap.push { cls := .type "range", data := .fields #[.int lo t, .int hi u, .int 1 v] }).objs.size := by simpa using hb
    subst e
    exact I1.fpOk (Nat.le_refl _) (I1.hok.fresh (Nat.le_refl _))
noncomputable def iRng1 (ta : TA) : TI := fun σ H R => ta σ H fun vs H1 => ∃ j : Int, vs = [.int j] ∧ -(2 ^ 62) ≤ j ∧ j < 2 ^ 62 ∧ R (Itr 0 j.toNat) H1
theorem pi_range1 {a : Expr} {ta : TA} {p pos : Pos} (hg : Gl X "range") (hm : X.mg "range" = none) (ha : PA X [a] ta) (hs : starEach [a] X.env = [(false, eval a X.env)] := by rfl) : PI X tg (.Call (.Name "range" p) [a] [] pos) (iRng1 ta) := by
  intro pins s σ H R I h
  refine Call_ (ld_blt I hg hm boot_range (PyProof.Rows.callWith_type1 (thn (ha pos pins s σ H _ I h) fun us s1 ⟨vs, H1, I1, r1, q1⟩ => ?_) hs rfl))
  obtain ⟨j, e, q1, q2, q⟩ := q1
  subst e
  cases r1 with
  | cons r rr =>
    cases rr
    obtain ⟨t, rfl⟩ := r
    exact call_range_1 (range_it I1 (by omega) (by omega) q1 q2 (by simpa using q))
noncomputable def tFor (wi : TI) (g : TG) (tb : TS) : TS := fun D σ H => wi σ H fun J H1 => ∃ W : Nat → Nat → St → Hp → Prop, (∃ m, W 0 m σ H1) ∧ ∀ i m σ H, W i m σ H →
  (J.stop i H ∧ D.nx σ H) ∨ (J.go i H ∧ ∃ N : St → Hp → Prop, (∀ σ' H', N σ' H' → ∃ m', m' < m ∧ W (i + 1) m' σ' H') ∧ ∀ x H', J.yld i H x H' → g x σ H' fun σ2 H2 => tb { D with nx := N, ct := N, bk := D.nx } σ2 H2)
noncomputable def pinsAt (fp : List Addr) (h : Heap) : List (Addr × Obj) := fp.filterMap fun b => (h.get? b).map fun o => (b, o)
theorem mem_pinsAt {fp : List Addr} {h : Heap} {b : Addr} {o : Obj} (hb : b ∈ fp) (e : h.get? b = some o) : (b, o) ∈ pinsAt fp h := List.mem_filterMap.mpr ⟨b, hb, by rw [e]; rfl⟩
theorem of_pinsAt {fp : List Addr} {h : Heap} {p : Addr × Obj} (hp : p ∈ pinsAt fp h) : p.1 ∈ fp ∧ h.get? p.1 = some p.2 := by
  obtain ⟨b, hb, e⟩ := List.mem_filterMap.mp hp
  cases q : h.get? b with
  | none => rw [q] at e; cases e
  | some o =>
    rw [q] at e
    have e' : (b, o) = p := Option.some.inj e
    subst e'
    exact ⟨hb, q⟩
theorem Inv.pinned {pins : List (Addr × Obj)} {σ : St} {H : Hp} {s : Shared} {fp : List Addr} (I : Inv X pins σ H s) (hf : ∀ b ∈ fp, FpOk X pins H b) (ho : ∀ b ∈ fp, ∃ o, s.heap.get? b = some o ∧ ∀ v, o.data ≠ .cell v) : Inv X (pins ++ pinsAt fp s.heap) σ H s :=
  I.pins_of fun p hp => (List.mem_append.mp hp).elim (fun z => I.pin p (List.mem_append_right _ z)) fun z => by
    obtain ⟨hb, e⟩ := of_pinsAt z
    obtain ⟨f0, f1, f2, _⟩ := hf p.1 hb
    obtain ⟨o, e', d⟩ := ho p.1 hb
    rw [e] at e'; cases e'
    exact ⟨e, f0, f1, f2, d⟩
theorem Inv.unpinned {pins pl : List (Addr × Obj)} {σ : St} {H : Hp} {s : Shared} (I : Inv X (pins ++ pl) σ H s) : Inv X pins σ H s := I.pins_of fun p hp => I.pin p (List.mem_append_right _ (List.mem_append_left _ hp))
theorem ps_for {iter : Expr} {body : List Stmt} {wi : TI} {g : TG} {tb : TS} {pos : Pos} (hp : PassesOwn (model X.prog X.w) X.A X.env X.xe) (hc : X.calm = true) (hi : PI X tg iter wi) (hg : PG X tg g) (hb : PSs X body tb)
    (hs : ∀ x, foldedSetIterable iter X.env x = pure x := by intro _; rfl) : PS X (.For tg iter body [] pos) (tFor wi g tb) := by
  intro pins s σ H D I h
  refine wpAny_For (thn (hi pins s σ H _ I h) fun v s1 h1 => thn h1 fun itv s2 h2 => ?_) hs
  obtain ⟨it, fp, tn, J, H2, e, I2, T, st2, f2, W, ⟨m0, w0⟩, turn⟩ := h2
  subst e
  have stat : ∀ {H' : Hp}, (∀ b ∈ fp, H' b = none) → ∀ b ∈ fp, FpOk X pins H' b := fun hn b hb => ⟨hn b hb, (f2 b hb).2⟩
  refine codeAny_forLoop_any (fun n s' => ∃ i σ' H', Inv X pins σ' H' s' ∧ tn i s'.heap ∧ (∀ b ∈ fp, H' b = none) ∧ W i n σ' H') ?_ m0 ⟨0, σ, H2, I2, st2, fun b hb => (f2 b hb).1, w0⟩
  rintro n s3 ⟨i, σ3, H3, I3, st3, fr3, w3⟩
  rcases turn i n σ3 H3 w3 with ⟨stop, qn⟩ | ⟨go, N, hN, step⟩
  · refine wpAny_passesOwn hp (thn (T.done X rfl rfl rfl hc i pins s3 σ3 H3 X.xe I3 (stat fr3) st3 stop) fun r s4 ⟨hr, I4⟩ => ?_)
    subst hr
    exact wpAny_execs_nil ⟨σ3, H3, I4, qn⟩
  · refine wpAny_passesOwn hp (thn (T.item X rfl rfl rfl hc i pins s3 σ3 H3 X.xe I3 (stat fr3) st3 go) fun r s4 ⟨u, hr, h4⟩ => ?_)
    subst hr
    refine wpAny_passesOwn hp (thn h4 fun _ s5 ⟨x, H5, I5, r5, y5, st5, fr5⟩ => ?_)
    have I5' := I5.pinned (stat fr5) (T.obj _ _ st5)
    refine wpAny_passesOwn hp (thn (hg _ s5 σ3 H5 x u _ I5' r5 (step x H5 y5)) fun _ s6 ⟨σ6, H6, I6, q6⟩ => ?_)
    refine wpAny_passesOwn hp (thn (hb _ s6 σ6 H6 _ I6 q6) fun f s7 q7 => ?_)
    have again : ∀ {σ7 : St} {H7 : Hp}, Inv X (pins ++ pinsAt fp s5.heap) σ7 H7 s7 → N σ7 H7 → ∃ m, m < n ∧ ∃ i σ' H', Inv X pins σ' H' s7 ∧ tn i s7.heap ∧ (∀ b ∈ fp, H' b = none) ∧ W i m σ' H' := fun {σ7 H7} I7 n7 => by
      obtain ⟨m', hm, w7⟩ := hN σ7 H7 n7
      refine ⟨m', hm, i + 1, σ7, H7, I7.unpinned, T.keep _ _ _ st5 fun b hb o e => (I7.pin (b, o) (List.mem_append_right _ (List.mem_append_right _ (mem_pinsAt hb e)))).1, fun b hb => ?_, w7⟩
      obtain ⟨o, e, d⟩ := T.obj _ _ st5 b hb
      exact (I7.pin (b, o) (List.mem_append_right _ (List.mem_append_right _ (mem_pinsAt hb e)))).2.1
    cases f with
    | next => obtain ⟨σ7, H7, I7, n7⟩ := q7; exact again I7 n7
    | cont => obtain ⟨σ7, H7, I7, n7⟩ := q7; exact again I7 n7
    | brk => obtain ⟨σ7, H7, I7, q7⟩ := q7; exact ⟨σ7, H7, I7.unpinned, q7⟩
    | ret v => obtain ⟨x7, σ7, H7, I7, r7, q7⟩ := q7; exact ⟨x7, σ7, H7, I7.unpinned, r7, q7⟩
end
end L2
namespace L2
open PySem PySem.Spec PyProof.Rows
noncomputable abbrev R2 := V → V → Hp → VK → Prop
noncomputable def OpR (X : Cx) (f : Value → Value → Sem Value) (r : R2) : Prop :=
  ∀ (pins : List (Addr × Obj)) (s : Shared) (σ : St) (H : Hp) (x y : V) (v u : Value) (Q : VK), Inv X pins σ H s → RelV x v → RelV y u → r x y H Q →
    wpAny (model X.prog X.w) X.A (f v u) (EP X pins σ Q) X.xe s
noncomputable def UnR (X : Cx) (f : Value → Sem Value) (r : V → Hp → VK → Prop) : Prop :=
  ∀ (pins : List (Addr × Obj)) (s : Shared) (σ : St) (H : Hp) (x : V) (v : Value) (Q : VK), Inv X pins σ H s → RelV x v → r x H Q →
    wpAny (model X.prog X.w) X.A (f v) (EP X pins σ Q) X.xe s
noncomputable def CallR (X : Cx) (f : Value) (r : List V → Hp → VK → Prop) : Prop :=
  ∀ (pins : List (Addr × Obj)) (s : Shared) (σ : St) (H : Hp) (xs : List V) (us : List Value) (Q : VK), Inv X pins σ H s → Vals xs us → r xs H Q →
    wpAny (model X.prog X.w) X.A (call f us) (EP X pins σ Q) X.xe s
noncomputable def tOp (r : R2) (ta tb : TE) : TE := fun σ H Q => ta σ H fun x H1 => tb σ H1 fun y H2 => r x y H2 Q
noncomputable def tUn (r : V → Hp → VK → Prop) (ta : TE) : TE := fun σ H Q => ta σ H fun x H1 => r x H1 Q
noncomputable def rI (C : Int → Int → Prop) (g : Int → Int → V) : R2 := fun x y H Q => ∃ i j, x = .int i ∧ y = .int j ∧ C i j ∧ Q (g i j) H
noncomputable def rI0 (g : Int → Int → V) : R2 := fun x y H Q => ∃ i j, x = .int i ∧ y = .int j ∧ Q (g i j) H
noncomputable def rU (g : Int → V) : V → Hp → VK → Prop := fun x H Q => ∃ i, x = .int i ∧ Q (g i) H
section
variable {X : Cx} {a b c : Expr} {ta tb tc : TE} {pos : Pos}
theorem binT (ha : PE X a ta) (hb : PE X b tb) {pins : List (Addr × Obj)} {s : Shared} {σ : St} {H : Hp} {R : V → V → Hp → Prop} (I : Inv X pins σ H s)
    (h : ta σ H fun x H1 => tb σ H1 fun y H2 => R x y H2) {Q : Value → Shared → Prop} {f : Value → Value → Sem Value}
    (hf : ∀ v u s2 x y H2, Inv X pins σ H2 s2 → RelV x v → RelV y u → R x y H2 → wpAny (model X.prog X.w) X.A (f v u) Q X.xe s2) :
    wpAny (model X.prog X.w) X.A (eval a X.env) (fun v s₁ => wpAny (model X.prog X.w) X.A (eval b X.env) (fun u s₂ => wpAny (model X.prog X.w) X.A (f v u) Q X.xe s₂) X.xe s₁) X.xe s := by
  refine thn (ha pins s σ H _ I h) fun v s1 ⟨x, H1, I1, r1, q1⟩ => ?_
  refine thn (hb pins s1 σ H1 _ I1 q1) fun u s2 ⟨y, H2, I2, r2, q2⟩ => ?_
  exact hf v u s2 x y H2 I2 r1 r2 q2
theorem pe_op {op : Operator} {r : R2} (ho : OpR X (binaryOp op) r) (ha : PE X a ta) (hb : PE X b tb) : PE X (.BinOp a op b pos) (tOp r ta tb) := by
  intro pins s σ H Q I h
  exact wpAny_BinOp (binT ha hb I h fun v u s2 x y H2 I2 rx ry q => ho pins s2 σ H2 x y v u Q I2 rx ry q)
theorem pe_un {op : UnaryOp} {r : V → Hp → VK → Prop} (ho : UnR X (unaryOp op) r) (ha : PE X a ta) : PE X (.UnaryOp op a pos) (tUn r ta) := by
  intro pins s σ H Q I h
  exact UnaryOp_ (thn (ha pins s σ H _ I h) fun v s1 ⟨x, H1, I1, r1, q1⟩ => ho pins s1 σ H1 x v Q I1 r1 q1)
theorem opI {f : Value → Value → Sem Value} {C : Int → Int → Prop} {g : Int → Int → Int}
    (rule : ∀ (i j : Int) (t u : Tok) (s : Shared) (Q : Value → Shared → Prop) (E : Value → Shared → Prop), C i j → Q (.int (g i j) s.toks) { s with toks := s.toks + 1 } → wpAny (model X.prog X.w) X.A (f (.int i t) (.int j u)) Q E s) :
    OpR X f (rI C fun i j => .int (g i j)) := by
  intro pins s σ H x y v u Q I rx ry h
  obtain ⟨i, j, rfl, rfl, hc, q⟩ := h
  obtain ⟨t, rfl⟩ := rx
  obtain ⟨t', rfl⟩ := ry
  exact rule i j t t' s _ _ hc ⟨.int (g i j), H, I.tok _, ⟨_, rfl⟩, q⟩
theorem opI0 {f : Value → Value → Sem Value} {g : Int → Int → Int}
    (rule : ∀ (i j : Int) (t u : Tok) (s : Shared) (Q : Value → Shared → Prop) (E : Value → Shared → Prop), Q (.int (g i j) s.toks) { s with toks := s.toks + 1 } → wpAny (model X.prog X.w) X.A (f (.int i t) (.int j u)) Q E s) :
    OpR X f (rI0 fun i j => .int (g i j)) := by
  intro pins s σ H x y v u Q I rx ry h
  obtain ⟨i, j, rfl, rfl, q⟩ := h
  obtain ⟨t, rfl⟩ := rx
  obtain ⟨t', rfl⟩ := ry
  exact rule i j t t' s _ _ ⟨.int (g i j), H, I.tok _, ⟨_, rfl⟩, q⟩
theorem opB0 {f : Value → Value → Sem Value} {g : Int → Int → Bool}
    (rule : ∀ (i j : Int) (t u : Tok) (s : Shared) (Q : Value → Shared → Prop) (E : Value → Shared → Prop), Q (.bool (g i j)) s → wpAny (model X.prog X.w) X.A (f (.int i t) (.int j u)) Q E s) :
    OpR X f (rI0 fun i j => .bl (g i j)) := by
  intro pins s σ H x y v u Q I rx ry h
  obtain ⟨i, j, rfl, rfl, q⟩ := h
  obtain ⟨t, rfl⟩ := rx
  obtain ⟨t', rfl⟩ := ry
  exact rule i j t t' s _ _ ⟨.bl (g i j), H, I, rfl, q⟩
noncomputable def CDiv (i j : Int) : Prop := 0 < j ∧ j < 1073741824
noncomputable def CPow (i j : Int) : Prop := 0 ≤ j ∧ j ≤ 1000000 ∧ i.natAbs < 2 ^ 64
noncomputable def CMul (i j : Int) : Prop := (-(2 ^ 64) < i ∧ i < 2 ^ 64) ∨ (-(2 ^ 64) < j ∧ j < 2 ^ 64)
theorem CMul.ok {i j : Int} (h : CMul i j) : IntMulOk i j := by
  rcases h with ⟨h1, h2⟩ | ⟨h1, h2⟩
  · exact .of_left (intBits_le_64 h1 h2)
  · exact .of_right (intBits_le_64 h1 h2)
theorem op_add : OpR X (binaryOp .Add) (rI0 fun i j => .int (i + j)) := opI0 fun _ _ _ _ _ _ _ q => add_int q
theorem op_sub : OpR X (binaryOp .Sub) (rI0 fun i j => .int (i - j)) := opI0 fun _ _ _ _ _ _ _ q => sub_int q
theorem op_mul : OpR X (binaryOp .Mult) (rI CMul fun i j => .int (i * j)) := opI fun _ _ _ _ _ _ _ hc q => mul_int q hc.ok
theorem op_fdiv : OpR X (binaryOp .FloorDiv) (rI CDiv fun i j => .int (i / j)) := opI fun i j _ _ _ _ _ hc q => by
  have h1 : (0 : Int) < j := hc.1
  have h2 : j < 1073741824 := hc.2
  exact floordiv_int (by omega) (by rw [Int.fdiv_eq_ediv_of_nonneg i (by omega)]; exact q) (.inl (PyProof.noPylong_small (by omega)))
theorem op_mod : OpR X (binaryOp .Mod) (rI (fun _ j => 0 < j) fun i j => .int (i % j)) := opI fun i j _ _ _ _ _ hc q => by
  have h1 : (0 : Int) < j := hc
  exact mod_int' (by omega) (by rw [Int.fmod_eq_emod_of_nonneg i (by omega)]; exact q)
theorem op_pow : OpR X (binaryOp .Pow) (rI CPow fun i j => .int (i ^ j.toNat)) := opI fun _ _ _ _ _ _ _ hc q => pow_int_small hc.1 hc.2.1 hc.2.2 q
theorem unI {f : Value → Sem Value} {g : Int → Int}
    (rule : ∀ (i : Int) (t : Tok) (s : Shared) (Q : Value → Shared → Prop) (E : Value → Shared → Prop), Q (.int (g i) s.toks) { s with toks := s.toks + 1 } → wpAny (model X.prog X.w) X.A (f (.int i t)) Q E s) :
    UnR X f (rU fun i => .int (g i)) := by
  intro pins s σ H x v Q I rx h
  obtain ⟨i, rfl, q⟩ := h
  obtain ⟨t, rfl⟩ := rx
  exact rule i t s _ _ ⟨.int (g i), H, I.tok _, ⟨_, rfl⟩, q⟩
theorem un_neg : UnR X (unaryOp .USub) (rU fun i => .int (-i)) := unI fun _ _ _ _ _ q => neg_int q
end
noncomputable def scal : V → V → Bool
  | .non, .non => true | .non, .int _ => true | .int _, .non => true | .non, .bl _ => true | .bl _, .non => true | .non, .str _ => true | .str _, .non => true
  | .int _, .int _ => true | .bl _, .bl _ => true | .str _, .str _ => true | .byt _, .byt _ => true
  | .int _, .str _ => true | .str _, .int _ => true | .bl _, .str _ => true | .str _, .bl _ => true
  | _, _ => false
noncomputable def rEq : R2 := fun x y H Q => scal x y = true ∧ Q (.bl (decide (x = y))) H
noncomputable def rNe : R2 := fun x y H Q => scal x y = true ∧ Q (.bl (!decide (x = y))) H
theorem dec_int {i j : Int} : decide (V.int i = V.int j) = (i == j) := by
  rw [Bool.eq_iff_iff]
  simp
theorem dec_bl {i j : Bool} : decide (V.bl i = V.bl j) = (i == j) := by
  rw [Bool.eq_iff_iff]
  simp
theorem dec_str {i j : Str} : decide (V.str i = V.str j) = (i == j) := by
  rw [Bool.eq_iff_iff]
  simp
theorem dec_byt {i j : Array UInt8} : decide (V.byt i = V.byt j) = (i.toList == j.toList) := by
  rw [Bool.eq_iff_iff]
  cases i
  cases j
  simp
section
variable {X : Cx} {a b c : Expr} {ta tb tc : TE} {pos : Pos}
theorem fin_bl {pins : List (Addr × Obj)} {σ : St} {H : Hp} {s : Shared} {Q : VK} {k k' : Bool} (I : Inv X pins σ H s) (q : Q (.bl k) H) (e : k = k') : EP X pins σ Q (.bool k') s := by
  subst e
  exact ⟨.bl k, H, I, rfl, q⟩
theorem op_eq : OpR X (compareOp .Eq) rEq := by
  intro pins s σ H x y v u Q I rx ry h
  obtain ⟨hs, q⟩ := h
  cases x with
  | non =>
    cases rx
    cases y with
    | non => cases ry; exact PySem.EqNone.eq_none_none (fin_bl I q (by simp))
    | bl j => cases ry; exact PySem.EqNone.eq_none_bool (fin_bl I q (by simp))
    | int j => obtain ⟨t', rfl⟩ := ry; exact PySem.EqNone.eq_none_int (fin_bl I q (by simp))
    | str j => obtain ⟨t', rfl⟩ := ry; exact PySem.EqNone.eq_none_str (fin_bl I q (by simp))
    | _ => exact absurd (show false = true from hs) Bool.false_ne_true
  | bl i =>
    cases rx
    cases y with
    | non => cases ry; exact PySem.EqNone.eq_bool_none (fin_bl I q (by simp))
    | bl j => cases ry; exact eq_bool (fin_bl I q dec_bl)
    | str j => obtain ⟨t', rfl⟩ := ry; exact PySem.EqMixed.eq_bool_str (fin_bl I q (by simp))
    | _ => exact absurd (show false = true from hs) Bool.false_ne_true
  | int i =>
    obtain ⟨t, rfl⟩ := rx
    cases y with
    | non => cases ry; exact PySem.EqNone.eq_int_none (fin_bl I q (by simp))
    | int j => obtain ⟨t', rfl⟩ := ry; exact eq_int (fin_bl I q dec_int)
    | str j => obtain ⟨t', rfl⟩ := ry; exact PySem.EqMixed.eq_int_str (fin_bl I q (by simp))
    | _ => exact absurd (show false = true from hs) Bool.false_ne_true
  | str i =>
    obtain ⟨t, rfl⟩ := rx
    cases y with
    | non => cases ry; exact PySem.EqNone.eq_str_none (fin_bl I q (by simp))
    | bl j => cases ry; exact PySem.EqMixed.eq_str_bool (fin_bl I q (by simp))
    | int j => obtain ⟨t', rfl⟩ := ry; exact PySem.EqMixed.eq_str_int (fin_bl I q (by simp))
    | str j => obtain ⟨t', rfl⟩ := ry; exact eq_str (fin_bl I q dec_str)
    | _ => exact absurd (show false = true from hs) Bool.false_ne_true
  | byt i =>
    obtain ⟨t, rfl⟩ := rx
    cases y with
    | byt j => obtain ⟨t', rfl⟩ := ry; exact PySem.W.eq_bytes (fin_bl I q dec_byt)
    | _ => exact absurd (show false = true from hs) Bool.false_ne_true
  | _ => cases y <;> exact absurd (show false = true from hs) Bool.false_ne_true
theorem op_ne : OpR X (compareOp .NotEq) rNe := by
  intro pins s σ H x y v u Q I rx ry h
  obtain ⟨hs, q⟩ := h
  cases x with
  | non =>
    cases rx
    cases y with
    | non => cases ry; exact PySem.EqNone.ne_none_none (fin_bl I q (by simp))
    | bl j => cases ry; exact PySem.EqNone.ne_none_bool (fin_bl I q (by simp))
    | int j => obtain ⟨t', rfl⟩ := ry; exact PySem.EqNone.ne_none_int (fin_bl I q (by simp))
    | str j => obtain ⟨t', rfl⟩ := ry; exact PySem.EqNone.ne_none_str (fin_bl I q (by simp))
    | _ => exact absurd (show false = true from hs) Bool.false_ne_true
  | bl i =>
    cases rx
    cases y with
    | non => cases ry; exact PySem.EqNone.ne_bool_none (fin_bl I q (by simp))
    | bl j => cases ry; exact ne_bool (fin_bl I q (congrArg not dec_bl))
    | str j => obtain ⟨t', rfl⟩ := ry; exact PySem.EqMixed.ne_bool_str (fin_bl I q (by simp))
    | _ => exact absurd (show false = true from hs) Bool.false_ne_true
  | int i =>
    obtain ⟨t, rfl⟩ := rx
    cases y with
    | non => cases ry; exact PySem.EqNone.ne_int_none (fin_bl I q (by simp))
    | int j => obtain ⟨t', rfl⟩ := ry; exact ne_int (fin_bl I q (congrArg not dec_int))
    | str j => obtain ⟨t', rfl⟩ := ry; exact PySem.EqMixed.ne_int_str (fin_bl I q (by simp))
    | _ => exact absurd (show false = true from hs) Bool.false_ne_true
  | str i =>
    obtain ⟨t, rfl⟩ := rx
    cases y with
    | non => cases ry; exact PySem.EqNone.ne_str_none (fin_bl I q (by simp))
    | bl j => cases ry; exact PySem.EqMixed.ne_str_bool (fin_bl I q (by simp))
    | int j => obtain ⟨t', rfl⟩ := ry; exact PySem.EqMixed.ne_str_int (fin_bl I q (by simp))
    | str j => obtain ⟨t', rfl⟩ := ry; exact ne_str (fin_bl I q (congrArg not dec_str))
    | _ => exact absurd (show false = true from hs) Bool.false_ne_true
  | byt i =>
    obtain ⟨t, rfl⟩ := rx
    cases y with
    | byt j => obtain ⟨t', rfl⟩ := ry; exact PySem.W.ne_bytes (fin_bl I q (congrArg not dec_byt))
    | _ => exact absurd (show false = true from hs) Bool.false_ne_true
  | _ => cases y <;> exact absurd (show false = true from hs) Bool.false_ne_true
theorem op_lt : OpR X (compareOp .Lt) (rI0 fun i j => .bl (decide (i < j))) := opB0 fun _ _ _ _ _ _ _ q => lt_int q
theorem op_le : OpR X (compareOp .LtE) (rI0 fun i j => .bl (decide (i ≤ j))) := opB0 fun _ _ _ _ _ _ _ q => le_int q
theorem op_gt : OpR X (compareOp .Gt) (rI0 fun i j => .bl (decide (j < i))) := opB0 fun _ _ _ _ _ _ _ q => gt_int q
theorem op_ge : OpR X (compareOp .GtE) (rI0 fun i j => .bl (decide (j ≤ i))) := opB0 fun _ _ _ _ _ _ _ q => ge_int q
theorem op_isN : OpR X (compareOp .Is) (fun x y H Q => y = .non ∧ Q (.bl (decide (x = .non))) H) := by
  intro pins s σ H x y v u Q I rx ry h
  obtain ⟨rfl, q⟩ := h
  cases ry
  refine is_none_gen (fin_bl I q ?_)
  cases x <;> first
    | (cases rx; rfl)
    | (obtain ⟨t, rfl⟩ := rx; rfl)
theorem OpR.or {f : Value → Value → Sem Value} {r r' : R2} (h : OpR X f r) (h' : OpR X f r') : OpR X f (fun x y H Q => r x y H Q ∨ r' x y H Q) := by
  intro pins s σ H x y v u Q I rx ry q
  rcases q with q | q
  · exact h pins s σ H x y v u Q I rx ry q
  · exact h' pins s σ H x y v u Q I rx ry q
theorem nomark (b : Expr) {op : CmpOp} (h : op ≠ .In := by decide) (h2 : op ≠ .NotIn := by decide) : behindInMarks op b = false := by
  have e1 : (op == CmpOp.In) = false := by cases op <;> first | rfl | exact absurd rfl h
  have e2 : (op == CmpOp.NotIn) = false := by cases op <;> first | rfl | exact absurd rfl h2
  cases b <;> simp [behindInMarks, e1, e2]
theorem pe_cmpR {op : CmpOp} {r : R2} (ho : OpR X (compareOp op) r) (ha : PE X a ta) (hb : PE X b tb) (hm : behindInMarks op b = false) : PE X (.Compare a [op] [b] pos) (tOp r ta tb) := by
  intro pins s σ H Q I h
  exact wpAny_Compare1 (binT ha hb I h fun v u s2 x y H2 I2 rx ry q => ho pins s2 σ H2 x y v u Q I2 rx ry q) hm
noncomputable def tTest (t : TE) : TT := fun σ H Q => t σ H fun x H' => ∃ k, x = .bl k ∧ Q k H'
theorem pt_cmpR {op : CmpOp} {r : R2} (ho : OpR X (compareOp op) r) (ha : PE X a ta) (hb : PE X b tb) (hm : behindInMarks op b = false) : PT X (.Compare a [op] [b] pos) (tTest (tOp r ta tb)) := by
  intro pins s σ H Q I h
  refine wpAny_isTrue_Compare1 (thn (ha pins s σ H _ I h) fun v s1 ⟨x, H1, I1, r1, q1⟩ => thn (hb pins s1 σ H1 _ I1 q1) fun u s2 ⟨y, H2, I2, r2, q2⟩ =>
    thn (ho pins s2 σ H2 x y v u _ I2 r1 r2 q2) fun c s3 ⟨z, H3, I3, r3, k, e, q3⟩ => ?_) hm
  subst e
  cases r3
  exact wpAny_truthy_bool ⟨H3, I3, q3⟩
noncomputable def tChain (r r' : R2) (ta tb tc : TE) : TE := fun σ H Q => ta σ H fun x H1 => tb σ H1 fun y H2 => r x y H2 fun z H3 => ∃ k, z = .bl k ∧
  (if k = true then tc σ H3 fun w' H4 => r' y w' H4 Q else Q (.bl false) H3)
theorem pe_chain {op op' : CmpOp} {r r' : R2} (ho : OpR X (compareOp op) r) (ho' : OpR X (compareOp op') r') (ha : PE X a ta) (hb : PE X b tb) (hc : PE X c tc)
    (hm : lastMarks [op, op'] [b, c] = false := by with_unfolding_all rfl) : PE X (.Compare a [op, op'] [b, c] pos) (tChain r r' ta tb tc) := by
  intro pins s σ H Q I h
  refine Compare_chain (thn (ha pins s σ H _ I h) fun v s1 ⟨x, H1, I1, r1, q1⟩ => chain_link (thn (hb pins s1 σ H1 _ I1 q1) fun u s2 ⟨y, H2, I2, r2, q2⟩ =>
    thn (ho pins s2 σ H2 x y v u _ I2 r1 r2 q2) fun d s3 ⟨z, H3, I3, r3, k, e, q3⟩ => ?_)) hm
  subst e
  cases r3
  refine wpAny_truthy_bool ?_
  cases k with
  | false => exact ite_ff ⟨.bl false, H3, I3, rfl, q3⟩
  | true => exact ite_tt (chain_last (thn (hc pins s3 σ H3 _ I3 q3) fun w' s4 ⟨z', H4, I4, r4, q4⟩ => ho' pins s4 σ H4 y z' u w' Q I4 r2 r4 q4))
theorem line63 : (sizeLine : Nat) < 2 ^ 63 := by rw [sizeLine_eq]; decide
theorem op_add_str : OpR X (binaryOp .Add) (fun x y H Q => ∃ i j, x = .str i ∧ y = .str j ∧ i.length + j.length ≤ sizeLine ∧ Q (.str (i ++ j)) H) := by
  intro pins s σ H x y v u Q I rx ry h
  obtain ⟨i, j, rfl, rfl, hz, q⟩ := h
  obtain ⟨t, rfl⟩ := rx
  obtain ⟨t', rfl⟩ := ry
  exact add_str (fun t' tk => ⟨.str (i ++ j), H, I.tok _, ⟨_, rfl⟩, q⟩) hz
theorem vals1 {x : V} {us : List Value} (r : Vals [x] us) : ∃ u, us = [u] ∧ RelV x u := by
  cases r with
  | cons r1 r2 => cases r2; exact ⟨_, rfl, r1⟩
theorem vals2 {x y : V} {us : List Value} (r : Vals [x, y] us) : ∃ u w', us = [u, w'] ∧ RelV x u ∧ RelV y w' := by
  cases r with
  | cons r1 r2 =>
    cases r2 with
    | cons r3 r4 => cases r4; exact ⟨_, _, rfl, r1, r3⟩
theorem call_max2 (hc : X.calm = true) : CallR X (.builtin "max") (fun xs H Q => ∃ i j, xs = [.int i, .int j] ∧ Q (.int (if j > i then j else i)) H) := by
  intro pins s σ H xs us Q I r h
  obtain ⟨i, j, rfl, q⟩ := h
  obtain ⟨u, w', rfl, ⟨t, rfl⟩, ⟨t', rfl⟩⟩ := vals2 r
  refine max_two_ints (I.ok.hd hc) fun h' tk k => ⟨_, H, I.kept k, ?_, q⟩
  by_cases hj : j > i
  · rw [if_pos hj, if_pos hj]; exact ⟨_, rfl⟩
  · rw [if_neg hj, if_neg hj]; exact ⟨_, rfl⟩
theorem call_min2 (hc : X.calm = true) : CallR X (.builtin "min") (fun xs H Q => ∃ i j, xs = [.int i, .int j] ∧ Q (.int (if j < i then j else i)) H) := by
  intro pins s σ H xs us Q I r h
  obtain ⟨i, j, rfl, q⟩ := h
  obtain ⟨u, w', rfl, ⟨t, rfl⟩, ⟨t', rfl⟩⟩ := vals2 r
  refine min_two_ints (I.ok.hd hc) fun h' tk k => ⟨_, H, I.kept k, ?_, q⟩
  by_cases hj : j < i
  · rw [if_pos hj, if_pos hj]; exact ⟨_, rfl⟩
  · rw [if_neg hj, if_neg hj]; exact ⟨_, rfl⟩
theorem call_str_int : CallR X (.type "str") (fun xs H Q => ∃ i, xs = [.int i] ∧ i.natAbs.log2 < 1920 ∧ Q (.str (toString i)) H) := by
  intro pins s σ H xs us Q I r h
  obtain ⟨i, rfl, hz, q⟩ := h
  obtain ⟨u, rfl, t, rfl⟩ := vals1 r
  exact PySem.P.str_of_int hz ⟨.str _, H, I.tok _, ⟨_, rfl⟩, q⟩
end
end L2
namespace L2
open PySem PySem.Spec PyProof.Rows
structure ObjM (h : Heap) (x dx C : Addr) (mA : Str → Option Value) : Prop where
  obj : h.get? x = some (PySem.W.instObj C dx)
  ns : h.Ns1 dx mA
  ne : dx ≠ x
theorem lookIn_ns {h : Heap} {dx : Addr} {mA : Str → Option Value} (n : h.Ns1 dx mA) : ∃ od, h.get? dx = some od ∧ ∀ name, PySem.W.lookIn name od = some (mA name) := by
  obtain ⟨o, es, ep, ho, hd, hk, _, hm⟩ := n
  refine ⟨o, ho, fun name => ?_⟩
  have e := hm name
  unfold nsFind findBy at e
  rw [← Array.find?_toList] at e
  unfold PySem.W.lookIn
  rw [hd]
  dsimp only
  split
  · rename_i y q
    rw [q] at e
    exact congrArg some e
  · rename_i q
    rw [q] at e
    have a : es.toList.any (·.refKey) = false := by
      rw [List.any_eq_false]
      intro y hy
      obtain ⟨z, t, hkey⟩ := hk y (Array.mem_toList_iff.mp hy)
      simp [DictEntry.refKey, hkey]
    have a' : ¬ es.toList.any (·.refKey) = true := by rw [a]; exact Bool.false_ne_true
    rw [if_neg a']
    exact congrArg some e
theorem ObjM.look {h : Heap} {x dx C : Addr} {mA : Str → Option Value} (I : ObjM h x dx C mA) : ∃ od, PySem.W.InstAt h x (PySem.W.instObj C dx) C (some od) ∧ ∀ name, PySem.W.lookIn name od = some (mA name) :=
  let ⟨od, ho, hl⟩ := lookIn_ns I.ns
  ⟨od, ⟨I.obj, rfl, rfl, ho⟩, hl⟩
section
variable {prog : Program} {w : World} {A : Around} {E : Value → Shared → Prop} {s : Shared} {K : PySem.W.Frag} {x dx C f : Addr} {mA : Str → Option Value} {name : Str} {v : Value}
end
section
variable {P : Program} {w : World} {H H' : Hp} {h h' : Heap} {a C dx : Addr} {fs fs' : List (Str × V)}
theorem ins_get (hok : HOk P w H h) (e : H a = some (.ins C dx fs)) : ∃ mA, ObjM h a dx C mA ∧ (∀ f, RelO (fs.lookup f) (mA f)) ∧ PySem.Within mA (fs.map (·.1)) ∧ fs.length ≤ 1000 ∧ H dx = some (.own a) := by
  obtain ⟨d, z, ne, ob, mA, n, r, q⟩ := (show ObjOk P w H h a (.ins C dx fs) from hok a _ e)
  exact ⟨mA, ⟨ob, n, ne⟩, r, q, z, d⟩
end
structure Cls (K : PySem.W.Frag) (C : Addr) : Prop where
  pg : PySem.W.plainGet K C Str.empty = true
  hd : PySem.W.hasDictIn K C = true
  po : PySem.W.plainOver K C = true
  sa : PySem.W.findIn K (.ref C) "__setattr__" = some (some (.builtin "object.__setattr__"))
theorem Cls.get {K : PySem.W.Frag} {C : Addr} (c : Cls K C) (f : Str) : PySem.W.plainGet K C f = true := c.pg
section
variable {X : Cx} {pins : List (Addr × Obj)} {σ : St} {H : Hp} {s : Shared} {a C dx : Addr} {fs : List (Str × V)} {f : Str} {v : V} {A : Around} {E : Value → Shared → Prop}
theorem Inv.made (I : Inv X pins σ H s) : Inv X pins σ (upd (upd H s.heap.objs.size (.own (s.heap.objs.size + 1))) (s.heap.objs.size + 1) (.ins C s.heap.objs.size []))
    { s with heap := (s.heap.push PySem.W.emptyDict).push (PySem.W.instObj C s.heap.objs.size) } := by
  have e1 : (s.heap.push PySem.W.emptyDict).get? s.heap.objs.size = some PySem.W.emptyDict := Heap.get?_push_size s.heap rfl
  have e2 : ((s.heap.push PySem.W.emptyDict).push (PySem.W.instObj C s.heap.objs.size)).get? (s.heap.objs.size + 1) = some (PySem.W.instObj C s.heap.objs.size) := by
    have := Heap.get?_push_size (s.heap.push PySem.W.emptyDict) (o := PySem.W.instObj C s.heap.objs.size) rfl
    rwa [Heap.size_push] at this
  have e3 : (s.heap.push PySem.W.emptyDict).Ns s.heap.objs.size (fun _ => none) := ⟨PySem.W.emptyDict, #[], _, e1, rfl, (fun e he => absurd he (by simp)), fun _ => rfl⟩
  have I1 := I.laid (a := s.heap.objs.size) (o := .own (s.heap.objs.size + 1)) (h' := s.heap.push PySem.W.emptyDict) (t' := s.toks) (fun b u q => Heap.get?_push_of_some _ q) (Nat.le_refl _) ⟨_, e1⟩
  refine I1.laid (a := s.heap.objs.size + 1) (o := .ins C s.heap.objs.size []) (t' := s.toks) (fun b u q => Heap.get?_push_of_some _ q) (Nat.le_of_eq (Heap.size_push _ _)) ?_
  have ne : s.heap.objs.size ≠ s.heap.objs.size + 1 := Nat.ne_of_lt (Nat.lt_succ_self _)
  refine ⟨by rw [upd_ne ne, upd_same], Nat.zero_le _, ne, e2, fun _ => none, (Heap.Ns1.of_empty e3).at fun o q => Heap.get?_push_of_some _ q, fun _ => True.intro, fun y hy => absurd rfl hy⟩
end
section
variable {X : Cx} {o e value : Expr} {f : Str} {pos pos' tpos : Pos} {ta tv : TE}
end
section
variable {X : Cx} {pins : List (Addr × Obj)} {σ : St} {H : Hp} {s : Shared} {A : Around} {E : Value → Shared → Prop} {Q : Value → Shared → Prop} {c : Value} {b : Bool}
inductive TyOf (K : PySem.W.Frag) (H : Hp) : V → Value → Prop where
  | non : TyOf K H .non (.type "NoneType")
  | bl (x : Bool) : TyOf K H (.bl x) (.type "bool")
  | int (i : Int) : TyOf K H (.int i) (.type "int")
  | str (x : Str) : TyOf K H (.str x) (.type "str")
  | flt (x : UInt64) : TyOf K H (.flt x) (.type "float")
  | lst {a : Addr} {xs : List V} (e : H a = some (.lst xs)) : TyOf K H (.ref a) (.type "list")
  | frz {a : Addr} {o : Obj} {xs : List V} (e : H a = some (.frz o (.lst xs))) : TyOf K H (.ref a) (.type "list")
  | tup {a : Addr} {xs : List V} (e : H a = some (.tup xs)) : TyOf K H (.ref a) (.type "tuple")
  | dK {a : Addr} {kvs : List (Key × V)} (e : H a = some (.dK kvs)) : TyOf K H (.ref a) (.type "dict")
  | dT {a : Addr} {kvs : List (List Key × V)} (e : H a = some (.dT kvs)) : TyOf K H (.ref a) (.type "dict")
  | ins {a C dx : Addr} {fs : List (Str × V)} (e : H a = some (.ins C dx fs)) (cl : Cls K C) (ha : PySem.W.findIn K (.ref C) "__class__" = some (some (.builtin "object.__class__")))
      (hn : PySem.W.specialIn K (.builtin "object.__class__") "__get__" = some (some (.builtin "getset_descriptor.__get__"))) (htk : PySem.W.takesIn K (.builtin "object.__class__") = some true)
      (hm : PySem.W.mroIn K C (.type "object") = some true) : TyOf K H (.ref a) (.ref C)
theorem isinst_ok {x : V} {u t : Value} (I : Inv X pins σ H s) (rx : RelV x u) (ty : TyOf X.K H x t) (e : PySem.W.kitOne X.K t c = some b) (h : ∀ tk, Q (.bool b) { s with toks := tk }) :
    wpAny (model X.prog X.w) A (call (.builtin "isinstance") [u, c]) Q E s := by
  cases ty with
  | non => cases (show u = Value.none from rx); exact PySem.W.kia_one PySem.W.kitx_none I.kIn True.intro e (fun z => nomatch z) h
  | bl y => cases (show u = Value.bool y from rx); exact PySem.W.kia_one PySem.W.kitx_bool I.kIn True.intro e (fun z => nomatch z) h
  | int i => obtain ⟨t, q⟩ := (show ∃ t, u = Value.int i t from rx); cases q; exact PySem.W.kia_one PySem.W.kitx_int I.kIn True.intro e (fun z => nomatch z) h
  | str y => obtain ⟨t, q⟩ := (show ∃ t, u = Value.str y t from rx); cases q; exact PySem.W.kia_one PySem.W.kitx_str I.kIn True.intro e (fun z => nomatch z) h
  | flt y => obtain ⟨t, q⟩ := (show ∃ t, u = Value.float y t from rx); cases q; exact PySem.W.kia_one PySem.W.kitx_float I.kIn True.intro e (fun z => nomatch z) h
  | @lst a xs ea =>
    cases (show u = Value.ref a from rx)
    obtain ⟨_, _, n, _, h1⟩ := (show ObjOk X.prog X.w H s.heap a (.lst xs) from I.hok a _ ea)
    exact PySem.W.kia_one PySem.W.kitx_list I.kIn ⟨_, h1, rfl⟩ e (fun z => nomatch z) h
  | @frz a ob xs ea =>
    cases (show u = Value.ref a from rx)
    obtain ⟨_, _, _, n, _, h1⟩ := (show ObjOk X.prog X.w H s.heap a (.frz ob (.lst xs)) from I.hok a _ ea)
    exact PySem.W.kia_one PySem.W.kitx_list I.kIn ⟨_, h1, rfl⟩ e (fun z => nomatch z) h
  | @tup a xs ea =>
    cases (show u = Value.ref a from rx)
    obtain ⟨_, _, _, p⟩ := (show ObjOk X.prog X.w H s.heap a (.tup xs) from I.hok a _ ea)
    obtain ⟨o, h1, h2, _⟩ := p
    exact PySem.W.kia_one PySem.W.kitx_tuple I.kIn ⟨o, h1, h2⟩ e (fun z => nomatch z) h
  | @dK a kvs ea =>
    cases (show u = Value.ref a from rx)
    obtain ⟨_, _, vs, _, p⟩ := (show ObjOk X.prog X.w H s.heap a (.dK kvs) from I.hok a _ ea)
    obtain ⟨o, es, ep, h1, h2, _⟩ := p
    exact PySem.W.kia_one PySem.W.kitx_dict I.kIn ⟨o, h1, h2.1⟩ e (fun z => nomatch z) h
  | @dT a kvs ea =>
    cases (show u = Value.ref a from rx)
    obtain ⟨_, _, xs, _, o, es, ep, h1, h2, _⟩ := (show ObjOk X.prog X.w H s.heap a (.dT kvs) from I.hok a _ ea)
    exact PySem.W.kia_one PySem.W.kitx_dict I.kIn ⟨o, h1, h2.1⟩ e (fun z => nomatch z) h
  | @ins a C dx fs ea cl ha hn htk hm =>
    cases (show u = Value.ref a from rx)
    obtain ⟨mA, O, _⟩ := ins_get I.hok ea
    obtain ⟨od, J, _⟩ := O.look
    exact PySem.W.kia_one (PySem.W.kitx_own (cl.get _) cl.hd ha hn htk hm) I.kIn J e (fun z => nomatch z) h
end
end L2
namespace L2
open PySem PySem.Spec PyProof.Rows
structure Room (k : Nat) (A : Around) : Prop where
  hd : A.handled = none
  dp : A.depth + 3 * k + 5 < recursionLimit
  un : A.units + 16 * k + 200 < cLine
  gd : A.guards = some []
theorem Room.mono {j k : Nat} {A : Around} (r : Room k A) (h : j ≤ k) : Room j A := ⟨r.hd, by have := r.dp; omega, by have := r.un; omega, r.gd⟩
theorem Room.deeper {k : Nat} {A : Around} (r : Room (k + 1) A) (env : Env) : Room k (A.deeper env) :=
  ⟨r.hd, by have := r.dp; show A.depth + 1 + 3 * k + 5 < _; omega, by have := r.un; show A.units + 3 + 16 * k + 200 < _; omega, r.gd⟩
theorem Room.in1 {k : Nat} {A : Around} (r : Room (k + 1) A) : Room k A.in1 :=
  ⟨r.hd, by have := r.dp; show A.depth + 3 * k + 5 < _; omega, by have := r.un; show A.units + 1 + 16 * k + 200 < _; omega, r.gd⟩
theorem Room.depth {k : Nat} {A : Around} (r : Room k A) : A.depth < recursionLimit := by have := r.dp; omega
theorem Room.units {k : Nat} {A : Around} (r : Room k A) : A.units + 64 < cLine := by have := r.un; omega
noncomputable def tNil : TA := fun _ H Q => Q [] H
noncomputable def tCons (ta : TE) (tr : TA) : TA := fun σ H Q => ta σ H fun x H1 => tr σ H1 fun xs H2 => Q (x :: xs) H2
section
variable {X : Cx} {e : Expr} {es : List Expr} {te : TE} {t : TA} {pos : Pos}
theorem pa_nil : PA X [] tNil := fun _ _ _ _ H Q I h => Calls.spliced_nil ⟨[], H, I, .nil, h⟩
theorem pa_cons (ha : PE X e te) (hr : PA X es t) (hs : starEach (e :: es) X.env = (false, eval e X.env) :: starEach es X.env := by rfl) : PA X (e :: es) (tCons te t) := by
  intro pos pins s σ H Q I h
  rw [hs]
  show wpAny _ _ (spliced ((false, eval e X.env) :: backTo pos (starEach es X.env))) _ _ s
  refine Calls.spliced_cons (thn (ha pins s σ H _ I h) fun u s1 ⟨x, H1, I1, r1, q1⟩ => ?_)
  exact thn (hr pos pins s1 σ H1 _ I1 q1) fun us s2 ⟨xs, H2, I2, r2, q2⟩ => ⟨x :: xs, H2, I2, .cons r1 r2, q2⟩
noncomputable def tTup (t : TA) : TE := fun σ H Q => t σ H fun xs H1 => xs.length ≤ sizeLine ∧ ∀ p, H1 p = none → Q (.ref p) (upd H1 p (.tup xs))
noncomputable def tLst (t : TA) : TE := fun σ H Q => t σ H fun xs H1 => xs.length ≤ sizeLine ∧ ∀ p, H1 p = none → Q (.ref p) (upd H1 p (.lst xs))
theorem pe_tup {x1} (h : PA X es t) : PE X (.Tuple es x1 pos) (tTup t) := by
  intro pins s σ H Q I hq
  refine wpAny_Tuple_spliced (thn (h pos pins s σ H _ I hq) fun us s1 ⟨xs, H1, I1, r, z, q⟩ => ⟨by rw [← r.length]; exact z, ?_⟩)
  have hf : H1 s1.heap.objs.size = none := I1.hok.fresh (Nat.le_refl _)
  refine ⟨.ref s1.heap.objs.size, upd H1 s1.heap.objs.size (.tup xs), I1.laid (t' := s1.toks) (fun b u e => Heap.get?_push_of_some _ e) (Nat.le_refl _) ?_, rfl, q _ hf⟩
  exact ⟨z, us, r, IsTD.new _ _⟩
theorem pe_lst (h : PA X es t) : PE X (.List es pos) (tLst t) := by
  intro pins s σ H Q I hq
  refine wpAny_List_spliced (thn (h pos pins s σ H _ I hq) fun us s1 ⟨xs, H1, I1, r, z, q⟩ => ⟨by rw [← r.length]; exact z, ?_⟩)
  have hf : H1 s1.heap.objs.size = none := I1.hok.fresh (Nat.le_refl _)
  refine ⟨.ref s1.heap.objs.size, upd H1 s1.heap.objs.size (.lst xs), I1.laid (t' := s1.toks) (fun b u e => Heap.get?_push_of_some _ e) (Nat.le_refl _) ?_, rfl, q _ hf⟩
  exact ⟨z, us, 0, r, Heap.get?_push_size _ rfl⟩
end
noncomputable abbrev Sp := List V → Hp → VK → XK → Prop
noncomputable abbrev CXT := List Env → Hp → Shared → XK → Value → Shared → Prop
structure Env0 (P : Program) (w : World) (K : PySem.W.Frag) (mg : Str → Option Value) (base : Heap) (A : Around) (outer : List Env) (s : Shared) (H : Hp) : Prop where
  frames : A.frames = some outer
  mod : Mod K mg base
  bs : ∀ b o, base.get? b = some o → s.heap.get? b = some o ∧ H b = none
  bsz : base.objs.size ≤ s.heap.objs.size
  funs : s.heap.FunFrames base outer
  frf : ∀ b ∈ frs outer, H b = none
  hok : HOk P w H s.heap
  bare : AllBare s.gens
noncomputable def CE (outer : List Env) (P : Program) (w : World) (H : Hp) (s : Shared) (Q : VK) (u : Value) (s' : Shared) : Prop :=
  ∃ v H', s'.os = s.os ∧ AllBare s'.gens ∧ Un (frs outer) [] H H' s.heap s'.heap ∧ HOk P w H' s'.heap ∧ RelV v u ∧ Q v H'
noncomputable def CR (CX : CXT) (outer : List Env) (P : Program) (w : World) (H : Hp) (s : Shared) (Q : VK) (E : XK) (r : Result) (s' : Shared) : Prop :=
  match r with
  | .ok (.ret u) => CE outer P w H s Q u s'
  | .ok _ => False
  | .error e => CX outer H s E e s'
structure FnOk (P : Program) (w : World) (K : PySem.W.Frag) (mg : Str → Option Value) (base : Heap) (CX : CXT) (k : Nat) (f : Addr) (fd : FuncData) (ps : List Str) (sp : Sp) : Prop where
  len : ∀ vs H Q E, sp vs H Q E → vs.length = ps.length
  run : ∀ (A : Around) (outer : List Env) (s : Shared) (H : Hp) (args : Args) (us : List Value) (vs : List V) (Q : VK) (E : XK), Room k A → Env0 P w K mg base A outer s H → BindsTo s fd args (ps.zip us) → Vals vs us → sp vs H Q E →
    codeAny (model P w) A (.call (.ref f) args) (CR CX outer P w H s Q E) s
theorem FnOk.mono {P : Program} {w : World} {K : PySem.W.Frag} {mg : Str → Option Value} {base : Heap} {CX : CXT} {j k : Nat} {f : Addr} {fd : FuncData} {ps : List Str} {sp : Sp} (F : FnOk P w K mg base CX j f fd ps sp) (h : j ≤ k) :
    FnOk P w K mg base CX k f fd ps sp := ⟨F.len, fun A outer s H args us vs Q E hr => F.run A outer s H args us vs Q E (hr.mono h)⟩
theorem FnOk.imp {P : Program} {w : World} {K : PySem.W.Frag} {mg : Str → Option Value} {base : Heap} {CX : CXT} {k : Nat} {f : Addr} {fd : FuncData} {ps : List Str} {sp sp' : Sp} (F : FnOk P w K mg base CX k f fd ps sp)
    (h : ∀ vs H Q E, sp' vs H Q E → sp vs H Q E) : FnOk P w K mg base CX k f fd ps sp' :=
  ⟨fun vs H Q E q => F.len vs H Q E (h _ _ _ _ q), fun A outer s H args us vs Q E hr he hb hv hs => F.run A outer s H args us vs Q E hr he hb hv (h _ _ _ _ hs)⟩
theorem Env0.in1 {P : Program} {w : World} {K : PySem.W.Frag} {mg : Str → Option Value} {base : Heap} {A : Around} {outer : List Env} {s : Shared} {H : Hp} (e : Env0 P w K mg base A outer s H) :
    Env0 P w K mg base A.in1 outer s H := ⟨e.frames, e.mod, e.bs, e.bsz, e.funs, e.frf, e.hok, e.bare⟩
section
variable {X : Cx} {pins : List (Addr × Obj)} {σ : St} {H : Hp} {s s' : Shared}
theorem Inv.env0 (I : Inv X pins σ H s) : Env0 X.prog X.w X.K X.mg X.base X.A X.stack s H :=
  ⟨I.ok.frames, I.ok.mod, I.bs, Nat.le_trans I.ok.bsz I.sz, I.stack, I.stkFree, I.hok, I.bare⟩
theorem Inv.after {Q : VK} {u : Value} (I : Inv X pins σ H s) (h : CE X.stack X.prog X.w H s Q u s') : EP X pins σ Q u s' := by
  obtain ⟨v, H', os, bare, un, hok, r, q⟩ := h
  obtain ⟨hh, g, d, t, os'⟩ := s'
  obtain rfl : os' = s.os := os
  exact ⟨v, H', I.call (h' := hh) (g' := g) (d' := d) (t' := t) (ch := []) un hok bare (fun b z => absurd z (by simp)), r, q⟩
end
noncomputable def tCall (sp : Sp) (dvs : List V) (E : XK) (t : TA) : TE := fun σ H Q => t σ H fun vs H1 => sp (vs ++ dvs) H1 Q E
noncomputable def Binds (K : PySem.W.Frag) (fd : FuncData) (ps : List Str) (ds : List Value) : Prop :=
  ∀ (s : Shared) (us : List Value), K.In s.heap → (us ++ ds).length = ps.length → BindsTo s fd ⟨us, []⟩ (ps.zip (us ++ ds))
theorem Binds.all {K : PySem.W.Frag} {fd : FuncData} {ps : List Str} (h : ∀ us : List Value, us.length = ps.length → bindArgs fd ⟨us, []⟩ = pure (ps.zip us)) : Binds K fd ps [] := fun s us _ hl => by
  rw [List.append_nil] at hl ⊢
  exact .of_eq (h us hl)
noncomputable def Passes (CX : CXT) (X : Cx) (E : XK) : Prop := ∀ (pins : List (Addr × Obj)) (σ : St) (H : Hp) (s : Shared) (e : Value) (s' : Shared), Inv X pins σ H s → CX X.stack H s E e s' → X.xe e s'
section
variable {X : Cx} {CX : CXT} {k : Nat} {f C : Addr} {fd : FuncData} {ps : List Str} {sp : Sp} {dvs : List V} {ds : List Value} {E : XK} {x m : Str} {p pos apos : Pos} {e o : Expr} {es : List Expr} {ta : TE} {t : TA}
theorem run_fn {pins : List (Addr × Obj)} {σ : St} {H : Hp} {s : Shared} {Q : VK} {us : List Value} {vs : List V} (F : FnOk X.prog X.w X.K X.mg X.base CX k f fd ps sp) (hr : Room k X.A) (hb : Binds X.K fd ps ds) (hd : Vals dvs ds) (hx : Passes CX X E)
    (I : Inv X pins σ H s) (r : Vals vs us) (h : sp (vs ++ dvs) H Q E) : wpAny (model X.prog X.w) X.A (call (.ref f) us) (EP X pins σ Q) X.xe s := by
  have r2 : Vals (vs ++ dvs) (us ++ ds) := r.append hd
  have hl : (us ++ ds).length = ps.length := by rw [← r2.length]; exact F.len _ _ _ _ h
  refine wpAny_call (codeAny_mono (F.run X.A X.stack s H ⟨us, []⟩ (us ++ ds) (vs ++ dvs) Q E hr I.env0 (hb s us I.kIn hl) r2 h) fun r s' hq => ?_)
  cases r with
  | error e => exact hx pins σ H s e s' I hq
  | ok fl =>
    cases fl with
    | ret u => exact I.after hq
    | next => exact False.elim hq
    | brk => exact False.elim hq
    | cont => exact False.elim hq
theorem pe_call (F : FnOk X.prog X.w X.K X.mg X.base CX k f fd ps sp) (hr : Room k X.A) (hg : Gl X x) (hm : X.mg x = some (.ref f)) (hk : PySem.W.keepIn X.K (.ref f) = true) (hb : Binds X.K fd ps ds) (hd : Vals dvs ds) (hx : Passes CX X E)
    (ha : PA X (e :: es) t) (hdb : (x == ("__debug__" : Str)) = false := by decide) (he : starEach (e :: es) X.env = (false, eval e X.env) :: starEach es X.env := by rfl) (hpl : (backTo pos (starEach es X.env)).any (·.1) = false := by rfl) :
    PE X (.Call (.Name x p) (e :: es) [] pos) (tCall sp dvs E t) := by
  intro pins s σ H Q I h
  refine wpAny_Call_Name_kw (ld_glob I hg hm ?_ hdb)
  refine PySem.W.callWith_K (h₀ := X.base) I.ok.mod.kin hk (thn (ha pos pins s σ H _ I h) fun us s1 ⟨vs, H1, I1, r, q⟩ => ⟨I1.kIn, ?_⟩) he hpl
  exact run_fn F hr hb hd hx I1 r q
end
section
variable {X : Cx} {CX : CXT} {k : Nat} {f C : Addr} {fd : FuncData} {ps ks : List Str} {sp : Sp} {E : XK} {x m : Str} {p pos apos kpos : Pos} {e o : Expr} {es : List Expr} {kws : List Keyword} {te ta : TE} {t tk : TA} {nm : Option Str}
variable {g : List Value → List Value → List Value} {gV : List V → List V → List V}
end
structure FnScope (N P : List Str) (sc : Scope) : Prop where
  kind : sc.kind = .function
  co : sc.isCoroutine = false
  gen : sc.isGenerator = false
  nd : N.Nodup
  pre : N.take P.length = P
  par : ∀ x ∈ P, sc.names.lookup x = some .local ∨ sc.names.lookup x = some .cell
  nofree : ∀ y ∈ sc.names, y.2 ≠ .free
theorem bindL_out {kindOf : Str → Option NameKind} {x : Str} : ∀ {binds : List (Str × Value)} {m : Str → Option Value}, (∀ v, (x, v) ∉ binds) → bindL kindOf binds m x = m x
  | [], _, _ => rfl
  | (n, v) :: r, m, h => by
    unfold bindL
    rw [bindL_out fun w hw => h w (List.mem_cons_of_mem _ hw)]
    split
    · have : x ≠ n := by rintro rfl; exact h v List.mem_cons_self
      simp [this]
    · rfl
theorem bindC_out {kindOf : Str → Option NameKind} {x : Str} : ∀ {binds : List (Str × Value)} {m : Str → Option Value}, (∀ v, (x, v) ∉ binds) → bindC kindOf binds m x = m x
  | [], _, _ => rfl
  | (n, v) :: r, m, h => by
    unfold bindC
    rw [bindC_out fun w hw => h w (List.mem_cons_of_mem _ hw)]
    split
    · rfl
    · have : x ≠ n := by rintro rfl; exact h v List.mem_cons_self
      simp [this]
theorem bindL_get {kindOf : Str → Option NameKind} {x : Str} {v : Value} : ∀ {P : List Str} {vs : List Value} {i : Nat} {m : Str → Option Value}, P.Nodup → P[i]? = some x → vs[i]? = some v → kindOf x = some .local →
    bindL kindOf (P.zip vs) m x = some v
  | [], _, _, _, _, h, _, _ => by simp at h
  | _ :: _, [], _, _, _, _, h, _ => by simp at h
  | p :: P, w :: vs, 0, m, nd, h1, h2, hk => by
    simp at h1 h2; subst h1; subst h2
    show bindL kindOf ((p, w) :: P.zip vs) m p = _
    unfold bindL
    rw [bindL_out fun v hv => (List.nodup_cons.mp nd).1 (List.of_mem_zip hv).1, if_pos hk]
    simp
  | p :: P, w :: vs, i + 1, m, nd, h1, h2, hk => by
    show bindL kindOf ((p, w) :: P.zip vs) m x = _
    unfold bindL
    exact bindL_get (i := i) (List.nodup_cons.mp nd).2 (by simpa using h1) (by simpa using h2) hk
theorem bindC_get {kindOf : Str → Option NameKind} {x : Str} {v : Value} : ∀ {P : List Str} {vs : List Value} {i : Nat} {m : Str → Option Value}, P.Nodup → P[i]? = some x → vs[i]? = some v → kindOf x ≠ some .local →
    bindC kindOf (P.zip vs) m x = some v
  | [], _, _, _, _, h, _, _ => by simp at h
  | _ :: _, [], _, _, _, _, h, _ => by simp at h
  | p :: P, w :: vs, 0, m, nd, h1, h2, hk => by
    simp at h1 h2; subst h1; subst h2
    show bindC kindOf ((p, w) :: P.zip vs) m p = _
    unfold bindC
    rw [bindC_out fun v hv => (List.nodup_cons.mp nd).1 (List.of_mem_zip hv).1, if_neg hk]
    simp
  | p :: P, w :: vs, i + 1, m, nd, h1, h2, hk => by
    show bindC kindOf ((p, w) :: P.zip vs) m x = _
    unfold bindC
    exact bindC_get (i := i) (List.nodup_cons.mp nd).2 (by simpa using h1) (by simpa using h2) hk
noncomputable def start (N : List Str) (vs : List V) : St := vs.map some ++ List.replicate (N.length - vs.length) none
noncomputable def cxOf (CX : CXT) (P : Program) (w : World) (K : PySem.W.Frag) (mg : Str → Option Value) (base : Heap) (N : List Str) (qual : Str) (scope : Scope) (f : Addr) (cd : Value) (A : Around) (outer : List Env) (s : Shared) (H : Hp) (E : XK) : Cx where
  prog := P
  w := w
  K := K
  mg := mg
  base := base
  A := A.deeper (envOfC qual scope s.heap.objs.size f cd)
  N := N
  s₀ := s
  H₀ := H
  env := envOfC qual scope s.heap.objs.size f cd
  outer := outer
  stack := envOfC qual scope s.heap.objs.size f cd :: outer
  ex := []
  calm := true
  fn := fun _ => true
  pn := []
  xe := fun e s' => wpAny (model P w) (A.deeper (envOfC qual scope s.heap.objs.size f cd)) (leaving (envOfC qual scope s.heap.objs.size f cd) e) (fun _ s'' => CX outer H s E e s'') (fun e' s'' => CX outer H s E e' s'') s'
theorem cell_has {sc : Scope} {n : Nat} {x : Str} (h : sc.names.lookup x = some .cell) : ∃ c, (cellsFrom n sc.names []).lookup x = some c := by
  have q := PySem.W.cellsFrom_some sc.names n [] (.inl h)
  exact Option.isSome_iff_exists.mp q
theorem inv_start {CX : CXT} {P : Program} {w : World} {K : PySem.W.Frag} {mg : Str → Option Value} {base : Heap} {N ps : List Str} {qual : Str} {scope : Scope} {f : Addr} {cd : Value} {A : Around} {outer : List Env} {s s1 : Shared} {H : Hp} {E : XK} {us : List Value} {vs : List V}
    (S : FnScope N ps scope) (hd : A.handled = none) (e0 : Env0 P w K mg base A outer s H) (hl : vs.length = ps.length) (r : Vals vs us)
    (x : InCallC s s.heap.objs.size (bindL (envOfC qual scope s.heap.objs.size f cd).kindOf (ps.zip us) fun _ => none) (cellsFrom (s.heap.objs.size + 1) scope.names []) (bindC (envOfC qual scope s.heap.objs.size f cd).kindOf (ps.zip us) fun _ => none) s1) :
    Inv (cxOf CX P w K mg base N qual scope f cd A outer s H E) [] (start N vs) H s1 := by
  have hpl : ps.length ≤ N.length := by have := congrArg List.length S.pre; rw [List.length_take] at this; omega
  obtain ⟨h1, tk, rfl, hk⟩ := x.done
  have noA : ∀ b : Addr, b ∉ (cxOf CX P w K mg base N qual scope f cd A outer s H E).ex := fun b z => absurd (show b ∈ ([] : List Addr) from z) (by simp)
  refine ⟨⟨e0.mod, S.kind, rfl, rfl, Nat.le_refl _, fun y z c h1 h2 => ?_, fun y hy => ?_, fun y c _ h => ?_, fun _ => hd, Around.frames_deeper e0.frames, .inr ⟨rfl, rfl⟩, fun b z => absurd z (noA b), e0.bs, e0.bsz, fun b _ _ => noA b, fun b z => absurd z (noA b), e0.funs, e0.frf⟩,
    rfl, e0.bare, Un.kept hk, ⟨_, x.toInCall.ns, fun i y v h1 h2 h3 => ?_⟩, fun y c h => ⟨_, x.cell y c h⟩, e0.hok.fresh (Nat.le_refl _), fun y c h => ?_, fun p hp => absurd (show p ∈ ([] : List (Addr × Obj)) from hp) (by simp), e0.hok.kept hk, ?_⟩
  · exact name_of_addr x.apart (PySem.mem_of_lookup h1) (PySem.mem_of_lookup h2)
  · have hy : scope.names.lookup y = some .cell ∨ scope.names.lookup y = some .free := hy
    rcases hy with hy | hy
    · exact cell_has hy
    · exact absurd rfl (S.nofree _ (PySem.mem_of_lookup hy))
  · exact Nat.le_of_lt (x.above y c (PySem.mem_of_lookup h))
  · have hi : i < vs.length := by
      unfold start at h2
      by_cases hi : i < vs.length
      · exact hi
      · rw [List.getElem?_append_right (by simpa using hi)] at h2
        rw [List.getElem?_replicate] at h2
        split at h2 <;> cases h2
    have ha : vs[i]? = some v := by
      unfold start at h2
      rw [List.getElem?_append_left (by simpa using hi), List.getElem?_map] at h2
      cases e : vs[i]? with
      | none => rw [e] at h2; cases h2
      | some a => rw [e] at h2; cases h2; rfl
    obtain ⟨u, hu, rv⟩ := r.get ha
    have hp : ps[i]? = some y := by
      rw [← S.pre, List.getElem?_take_of_lt (by omega)]; exact h1
    have ndP : ps.Nodup := by rw [← S.pre]; exact S.nd.sublist (List.take_sublist _ _)
    refine ⟨u, rv, ?_⟩
    rcases S.par y (List.mem_of_getElem? hp) with k | k
    · exact .inl ⟨k, bindL_get ndP hp hu k⟩
    · obtain ⟨c, e⟩ := cell_has (n := s.heap.objs.size + 1) k
      refine .inr ⟨.inl k, c, e, ?_⟩
      have q := x.cell y c e
      rw [bindC_get ndP hp hu (by show scope.names.lookup y ≠ _; rw [k]; decide)] at q
      exact q
  · exact e0.hok.fresh (Nat.le_of_lt (x.above y c (PySem.mem_of_lookup h)))
  · unfold start
    show _ = N.length
    rw [List.length_append, List.length_map, List.length_replicate]
    omega
theorem fn_of {CX : CXT} {P : Program} {w : World} {K : PySem.W.Frag} {mg : Str → Option Value} {base : Heap} {k : Nat} {f : Addr} {name qual : Str} {params : Arguments} {body : List Stmt} {scope : Scope} {dV kV doc pm cdv ct oc : Value} {an od : Option Addr}
    {osl : Array (Option Value)} {N ps : List Str} {sp : Sp} (lk : K.lookup f = some ⟨oc, od, .func (PySem.W.fnOf name qual params body scope dV kV doc pm an cdv ct), osl⟩) (hcd : PySem.W.codeIn K cdv qual = true) (S : FnScope N ps scope)
    (len : ∀ vs H Q E, sp vs H Q E → vs.length = ps.length)
    (hbody : ∀ (A : Around) (outer : List Env) (s : Shared) (H : Hp) (vs : List V) (Q : VK) (E : XK), Room k (A.deeper (envOfC qual scope s.heap.objs.size f cdv)) → sp vs H Q E →
      ∃ t, PSs (cxOf CX P w K mg base N qual scope f cdv A outer s H E) body t ∧ t { nx := fun _ H' => Q .non H', rt := Q } (start N vs) H) :
    FnOk P w K mg base CX (k + 1) f (PySem.W.fnOf name qual params body scope dV kV doc pm an cdv ct) ps sp := by
  refine ⟨len, fun A outer s H args us vs Q E hr e0 hb r hsp => ?_⟩
  have hl := len _ _ _ _ hsp
  have KX : K.In s.heap := e0.mod.kin.keeps fun b o e => (e0.bs b o e).1
  have lim : s.heap.NoLimit := e0.mod.nolimit.keeps fun b o e => (e0.bs b o e).1
  have hkind : ∀ y ∈ ps.zip us, scope.names.lookup y.1 = some .local ∨ (scope.names.lookup y.1 = some .cell ∧ ((cellsFrom (s.heap.objs.size + 1) scope.names []).lookup y.1).isSome = true) := fun hx2_ hy => by
    obtain ⟨n, v⟩ := hx2_
    rcases S.par n (List.of_mem_zip hy).1 with q | q
    · exact .inl q
    · exact .inr ⟨q, PySem.W.cellsFrom_some _ _ _ (.inl q)⟩
  refine codeAny_call_function hr.depth (KX _ _ lk) rfl S.co S.gen rfl (PySem.W.codeRec_of KX hcd) (hb _ _ _ _ ?_)
  refine wpAny_newFunctionEnv_cells S.kind hkind fun env he s1 x => ?_
  subst he
  refine ⟨lim.keeps x.toInCall.keep, codeAny_func ?_⟩
  obtain ⟨t, ht, hq⟩ := hbody A outer s H vs Q E (hr.deeper _) hsp
  have I : Inv (cxOf CX P w K mg base N qual scope f cdv A outer s H E) [] (start N vs) H s1 := inv_start S hr.hd e0 hl r x
  refine wpAny_mono (ht [] s1 (start N vs) H _ I hq) (fun fl s' hs => ?_) fun e s' hs => hs
  have fin : ∀ {σ' : St} {H' : Hp} {v : V} {u : Value}, Inv (cxOf CX P w K mg base N qual scope f cdv A outer s H E) [] σ' H' s' → RelV v u → Q v H' → CE outer P w H s Q u s' :=
    fun {σ' H' v u} J rv q => ⟨v, H', J.os, J.bare, J.base, J.hok, rv, q⟩
  cases fl with
  | ret u =>
    obtain ⟨v, σ', H', J, rv, q⟩ := hs
    exact fin J rv q
  | next =>
    obtain ⟨σ', H', J, q⟩ := hs
    exact fin (v := V.non) (u := Value.none) J rfl q
  | brk =>
    obtain ⟨_, _, _, q⟩ := hs
    exact False.elim q
  | cont =>
    obtain ⟨_, _, _, q⟩ := hs
    exact False.elim q
end L2
namespace L2
open PySem PySem.Spec PyProof.Rows
section
variable {X : Cx} {x : Str} {p pos : Pos} {e : Expr} {es : List Expr} {t : TA} {id T : String} {r : List V → Hp → VK → Prop}
noncomputable def tCB (r : List V → Hp → VK → Prop) (t : TA) : TE := fun σ H Q => t σ H fun vs H1 => r vs H1 Q
theorem pe_callB (hc : CallR X (.builtin id) r) (hg : Gl X x) (hm : X.mg x = none) (hv : bootBuiltins x = some (.builtin id)) (ha : PA X (e :: es) t) (hn : x ≠ "__name__" := by decide) (hdb : (x == ("__debug__" : Str)) = false := by decide)
    (he : starEach (e :: es) X.env = (false, eval e X.env) :: starEach es X.env := by rfl) (hpl : (backTo pos (starEach es X.env)).any (·.1) = false := by rfl) : PE X (.Call (.Name x p) (e :: es) [] pos) (tCB r t) := by
  intro pins s σ H Q I h
  refine wpAny_Call_Name_kw (ld_blt I hg hm hv ?_ hn hdb)
  exact PyProof.Rows.callWith_builtin1 (thn (ha pos pins s σ H _ I h) fun us s1 ⟨vs, H1, I1, r1, q1⟩ => hc pins s1 σ H1 vs us Q I1 r1 q1) he hpl
theorem pe_callTy (hc : CallR X (.type T) r) (hg : Gl X x) (hm : X.mg x = none) (hv : bootBuiltins x = some (.type T)) (ha : PA X (e :: es) t) (hn : x ≠ "__name__" := by decide) (hdb : (x == ("__debug__" : Str)) = false := by decide)
    (he : starEach (e :: es) X.env = (false, eval e X.env) :: starEach es X.env := by rfl) (hpl : (backTo pos (starEach es X.env)).any (·.1) = false := by rfl) : PE X (.Call (.Name x p) (e :: es) [] pos) (tCB r t) := by
  intro pins s σ H Q I h
  refine wpAny_Call_Name_kw (ld_blt I hg hm hv ?_ hn hdb)
  exact PyProof.Rows.callWith_type1 (thn (ha pos pins s σ H _ I h) fun us s1 ⟨vs, H1, I1, r1, q1⟩ => hc pins s1 σ H1 vs us Q I1 r1 q1) he hpl
end
end L2
namespace HT
open PySem PyProof.Rows
section
open PySem.SeqAt
open PySem.AutoSeq1 (wpAny_loadPart')
open PySem.MeetsSeq PySem.MeetsSeq2 PySem.MeetsSeq3
end
section
variable {prog : Program} {w : World} {A : Around} {E : Value → Shared → Prop} {s : Shared}
theorem cat_tup {t b : Addr} {vs ws : List Value} {Q : Value → Shared → Prop} (ht : IsTup s.heap t vs.toArray) (hb : IsTup s.heap b ws.toArray) (hv : vs ≠ [])
    (h1 : ws = [] → Q (.ref t) s) (h2 : ws ≠ [] → Q (.ref s.heap.objs.size) { s with heap := s.heap.push { cls := .type "tuple", data := .seq (vs ++ ws).toArray } })
    (hsz : vs.length + ws.length ≤ sizeLine) : wpAny (model prog w) A (binaryOp .Add (.ref t) (.ref b)) Q E s := by
  obtain ⟨⟨cls, dd, data, sl⟩, ho, hc, n, hd⟩ := id ht
  obtain ⟨⟨cls2, dd2, data2, sl2⟩, ho2, hc2, n2, hd2⟩ := id hb
  simp only at hc hd hc2 hd2
  subst hc hd hc2 hd2
  have e : vs.toArray ++ ws.toArray = (vs ++ ws).toArray := by simp
  by_cases hw : ws = []
  · exact concat_meets ⟨_, ho, rfl⟩ ⟨_, ho2, rfl⟩ noFill_tuple_add seq_tuple_add PySem.F.slot_tuple_add PySem.F.entry_tuple_add (PySem.F.args_tuple_add_2 _ _)
      (tuple_addW1 t b vs.toArray ws.toArray n n2 dd dd2 sl sl2 (by simpa using hv) (by simp [hw])) ⟨ho, ho2, h1 hw⟩
  · refine concat_meets ⟨_, ho, rfl⟩ ⟨_, ho2, rfl⟩ noFill_tuple_add seq_tuple_add PySem.F.slot_tuple_add PySem.F.entry_tuple_add (PySem.F.args_tuple_add_2 _ _)
      (tuple_addW2 t b vs.toArray ws.toArray n n2 dd dd2 sl sl2 (by simpa using hv) (by simpa using hw) (by rw [List.size_toArray, List.size_toArray]; exact hsz)) ⟨ho, ho2, ?_⟩
    rw [e]
    exact h2 hw
noncomputable def sIx (n d : Nat) : Option Int → Nat
  | none => d
  | some v => if v < 0 then (v + (n : Int)).toNat else min v.toNat n
theorem sIx_none (n d : Nat) : sIx n d none = d := rfl
theorem sIx_nat (n d k : Nat) : sIx n d (some (k : Int)) = min k n := by
  show (if (k : Int) < 0 then ((k : Int) + (n : Int)).toNat else min (k : Int).toNat n) = min k n
  rw [if_neg (by omega), Int.toNat_natCast]
theorem sIx_le (n d : Nat) (hd : d ≤ n) (o : Option Int) : sIx n d o ≤ n := by
  cases o with
  | none => exact hd
  | some v =>
    show (if v < 0 then (v + (n : Int)).toNat else min v.toNat n) ≤ n
    by_cases hv : v < 0
    · rw [if_pos hv]; omega
    · rw [if_neg hv]; exact Nat.min_le_right _ _
theorem clip_eq (v : Int) (n d : Nat) : (if v < 0 then max (v + (n : Int)) 0 else min v (n : Int)) = ((sIx n d (some v) : Nat) : Int) := by
  show (if v < 0 then max (v + (n : Int)) 0 else min v (n : Int)) = (((if v < 0 then (v + (n : Int)).toNat else min v.toNat n) : Nat) : Int)
  by_cases hv : v < 0
  · simp only [if_pos hv]; omega
  · simp only [if_neg hv]; omega
theorem adjust_gen (lo hi : Option Int) (n : Nat) : Builtin.Slice.sliceAdjust lo hi 1 (n : Int) = (((sIx n 0 lo : Nat) : Int), ((sIx n n hi : Nat) : Int)) := by
  have h1 : ¬ ((1 : Int) < 0) := by omega
  unfold Builtin.Slice.sliceAdjust
  simp only [h1, if_false]
  refine Prod.ext ?_ ?_
  · cases lo with
    | none => rfl
    | some v => exact clip_eq v n 0
  · cases hi with
    | none => rfl
    | some v => exact clip_eq v n n
theorem places_gen (i j : Nat) : Builtin.Slice.slicePlaces (i : Int) (j : Int) 1 = j - i := by
  unfold Builtin.Slice.slicePlaces
  have h1 : (1 : Int) > 0 := by omega
  simp only [h1, if_true, Int.ediv_one]
  split <;> omega
theorem slicePart_ {v : Value} {o : Option Int} {Q : Option Int → Shared → Prop} (p : IsPart v o) (h : Q o s) : wpAny (model prog w) A (Builtin.Slice.slicePartIndex v) Q E s := by
  cases p with
  | none => exact slicePart_none h
  | int i t => exact slicePart_int h
theorem sliceApplied_gen {sl : Addr} {vl vu : Value} {lo hi : Option Int} {n : Nat} {Q : Int × Int × Nat → Shared → Prop} (hs : s.heap.IsSliceOf sl vl vu .none) (pl : IsPart vl lo) (pu : IsPart vu hi)
    (h : Q (((sIx n 0 lo : Nat) : Int), 1, sIx n n hi - sIx n 0 lo) s) : wpAny (model prog w) A (Builtin.Slice.sliceApplied (.ref sl) (pure (n : Int))) Q E s := by
  obtain ⟨os, hos, hcs, hds⟩ := id hs
  unfold Builtin.Slice.sliceApplied Builtin.Slice.sliceFields
  refine wpAny_bind (wpAny_bind (wpAny_field hos hds (x := vl) rfl (wpAny_bind (wpAny_field hos hds (x := vu) rfl (wpAny_bind (wpAny_field hos hds (x := .none) rfl (wpAny_pure ?_)))))))
  refine wpAny_bind (slicePart_none ?_)
  show wpAny _ _ (if ((1 : Int) == 0) = true then _ else _) _ _ s
  rw [if_neg (by decide)]
  refine wpAny_bind (slicePart_ pl (wpAny_bind (slicePart_ pu (wpAny_bind (wpAny_pure ?_)))))
  show wpAny _ _ (match Builtin.Slice.sliceAdjust lo hi 1 (n : Int) with | (lo, hi) => pure (lo, (1 : Int), Builtin.Slice.slicePlaces lo hi 1)) _ _ s
  rw [adjust_gen lo hi n]
  show wpAny _ _ (pure (((sIx n 0 lo : Nat) : Int), (1 : Int), Builtin.Slice.slicePlaces ((sIx n 0 lo : Nat) : Int) ((sIx n n hi : Nat) : Int) 1)) _ _ s
  rw [places_gen]
  exact wpAny_pure h
theorem pick_gen (xs : Array Value) (i k : Nat) : ((List.range k).filterMap fun (m : Nat) => xs[((i : Int) + (m : Int) * 1).toNat]?).toArray = ((xs.toList.drop i).take k).toArray := by
  have e : (fun (m : Nat) => xs[((i : Int) + (m : Int) * 1).toNat]?) = fun m => xs[i + m]? := by
    funext m
    have : ((i : Int) + (m : Int) * 1).toNat = i + m := by omega
    rw [this]
  rw [e]
  have := pick_run xs i k
  rw [List.filterMap_map] at this
  have e2 : ((fun x => xs[x]?) ∘ fun x => i + x) = fun m => xs[i + m]? := rfl
  rw [e2] at this
  rw [this]
theorem getItem_tuple_cut {t sl : Addr} {items : Array Value} {vl vu : Value} {lo hi : Option Int} {Q : Value → Shared → Prop} (ht : IsTup s.heap t items) (hs : s.heap.IsSliceOf sl vl vu .none) (pl : IsPart vl lo) (pu : IsPart vu hi)
    (hw : ¬ (sIx items.size 0 lo = 0 ∧ sIx items.size items.size hi = items.size))
    (h : Q (.ref s.heap.objs.size) { s with heap := s.heap.push { cls := .type "tuple", data := .seq ((items.toList.drop (sIx items.size 0 lo)).take (sIx items.size items.size hi - sIx items.size 0 lo)).toArray } })
    (hsz : items.size ≤ sizeLine) : wpAny (model prog w) A (getItem (.ref t) (.ref sl)) Q E s := by
  have htake : sizeOk (.seq ((items.toList.drop (sIx items.size 0 lo)).take (sIx items.size items.size hi - sIx items.size 0 lo)).toArray) := by
    show ((items.toList.drop (sIx items.size 0 lo)).take (sIx items.size items.size hi - sIx items.size 0 lo)).toArray.size ≤ sizeLine
    rw [List.size_toArray, List.length_take, List.length_drop, Array.length_toList]
    omega
  have hj : sIx items.size items.size hi ≤ items.size := sIx_le _ _ (Nat.le_refl _) hi
  obtain ⟨os, hos, hcs, hds⟩ := id hs
  have hTs : s.TypeIs (.ref sl) "slice" := ⟨os, hos, hcs⟩
  unfold getItem
  try with_reducible refine wpAny_holding ?_
  first | refine wpAny_bind (wpAny_pure ?_) | skip
  refine wpAny_bind (wpAny_sequenceKey ht.typeIs (by decide) ?_)
  refine wpAny_bind (wpAny_callSpecial?_slot (name := Str.ofString "__getitem__") ht.typeIs PyProof.Rows.slot_tuple_getitem
    (wpAny_call_entry PyProof.Rows.slot_tuple_getitem ht.typeIs entry_tuple_getitem ?_ (args_tuple_getitem _ _)))
  show wpAny _ _ (Builtin.Tuple.tupleItemsOf (.ref t) >>= _) _ _ s
  refine wpAny_bind (tupleItemsOf_ ht ?_)
  refine wpAny_bind (wpAny_typeOf hTs ?_)
  rw [if_pos (by decide)]
  refine wpAny_bind (sliceApplied_gen hs pl pu ?_)
  have hno : ¬ ((((sIx items.size 0 lo : Nat) : Int) == 0 && (1 : Int) == 1 && (sIx items.size items.size hi - sIx items.size 0 lo) == items.size) = true) := by
    intro q
    rw [Bool.and_eq_true, Bool.and_eq_true] at q
    have q1 : ((sIx items.size 0 lo : Nat) : Int) = 0 := eq_of_beq q.1.1
    have q2 : sIx items.size items.size hi - sIx items.size 0 lo = items.size := eq_of_beq q.2
    exact hw ⟨by omega, by omega⟩
  show wpAny _ _ (if (((sIx items.size 0 lo : Nat) : Int) == 0 && (1 : Int) == 1 && (sIx items.size items.size hi - sIx items.size 0 lo) == items.size) = true then _ else _) _ _ s
  rw [if_neg hno, pick_gen]
  first
    | exact wpAny_bind (m := Builtin.Tuple.tupleExact _) (wpAny_newObj_type (wpAny_pure ⟨_, rfl, wpAny_pure h⟩) htake)
    | exact wpAny_bind (m := Builtin.Tuple.tupleExact _) (wpAny_newObj_type (wpAny_bind (wpAny_pure (wpAny_pure ⟨_, rfl, wpAny_pure h⟩))) htake)
    | exact wpAny_bind (wpAny_bind (m := Builtin.Tuple.tupleExact _) (wpAny_newObj_type (wpAny_pure (wpAny_pure ⟨_, rfl, wpAny_pure h⟩)) htake))
    | exact wpAny_bind (wpAny_bind (m := Builtin.Tuple.tupleExact _) (wpAny_newObj_type (wpAny_pure ⟨_, rfl, wpAny_pure h⟩) htake))
end
end HT
namespace L2
open PySem PySem.Spec PyProof.Rows
noncomputable abbrev TO := St → Hp → (Option Int → Hp → Prop) → Prop
noncomputable def PO (X : Cx) (e : Option Expr) (t : TO) : Prop :=
  ∀ (pins : List (Addr × Obj)) (s : Shared) (σ : St) (H : Hp) (Q : Option Int → Hp → Prop), Inv X pins σ H s → t σ H Q →
    wpAny (model X.prog X.w) X.A (evalPart e X.env) (fun u s' => ∃ o H', Inv X pins σ H' s' ∧ IsPart u o ∧ Q o H') X.xe s
noncomputable def tNoPart : TO := fun _ H Q => Q none H
noncomputable def tPart (t : TE) : TO := fun σ H Q => t σ H fun x H1 => ∃ i, x = .int i ∧ Q (some i) H1
section
variable {X : Cx} {e : Expr} {te : TE} {lo hi : Option Expr} {tl th : TO} {pos p2 : Pos}
theorem po_none : PO X none tNoPart := by
  intro pins s σ H Q I h
  rw [evalPart_none]
  exact wpAny_pure ⟨none, H, I, .none, h⟩
theorem po_some (h : PE X e te) : PO X (some e) (tPart te) := by
  intro pins s σ H Q I hw
  rw [evalPart_some]
  refine thn (h pins s σ H _ I hw) fun u s1 ⟨x, H1, I1, r1, q1⟩ => ?_
  obtain ⟨i, rfl, q⟩ := q1
  obtain ⟨t, rfl⟩ := r1
  exact ⟨some i, H1, I1, .int i t, q⟩
noncomputable def SlR (X : Cx) (r : V → Option Int → Option Int → Hp → VK → Prop) : Prop :=
  ∀ (pins : List (Addr × Obj)) (s : Shared) (σ : St) (H : Hp) (x : V) (v vl vu : Value) (lo hi : Option Int) (sl : Addr) (Q : VK), Inv X pins σ H s → RelV x v → s.heap.IsSliceOf sl vl vu .none → IsPart vl lo → IsPart vu hi → r x lo hi H Q →
    ∃ T id, typeLookup (.type T) "__getitem__" = pure (some (.builtin id)) ∧ s.TypeIs v T ∧ wpAny (model X.prog X.w) X.A (getItem v (.ref sl)) (EP X pins σ Q) X.xe s
theorem SlR.or {r r' : V → Option Int → Option Int → Hp → VK → Prop} (h : SlR X r) (h' : SlR X r') : SlR X (fun x lo hi H Q => r x lo hi H Q ∨ r' x lo hi H Q) := by
  intro pins s σ H x v vl vu lo hi sl Q I rx hs pl pu q
  rcases q with q | q
  · exact h pins s σ H x v vl vu lo hi sl Q I rx hs pl pu q
  · exact h' pins s σ H x v vl vu lo hi sl Q I rx hs pl pu q
noncomputable def tSl (r : V → Option Int → Option Int → Hp → VK → Prop) (te : TE) (tl th : TO) : TE := fun σ H Q => te σ H fun x H1 => tl σ H1 fun l H2 => th σ H2 fun u H3 => r x l u H3 Q
theorem pe_slice {r : V → Option Int → Option Int → Hp → VK → Prop} (hr : SlR X r) (he : PE X e te) (hl : PO X lo tl) (hu : PO X hi th) : PE X (.Subscript e (.Slice lo hi none p2) pos) (tSl r te tl th) := by
  intro pins s σ H Q I h
  refine Subscript_ (thn (he pins s σ H _ I h) fun v s1 ⟨x, H1, I1, r1, q1⟩ => ?_)
  refine wpAny_Slice (thn (hl pins s1 σ H1 _ I1 q1) fun vl s2 ⟨l, H2, I2, pl, q2⟩ => thn (hu pins s2 σ H2 _ I2 q2) fun vu s3 ⟨u, H3, I3, pu, q3⟩ => ?_)
  rw [evalPart_none]
  refine wpAny_pure ?_
  have I4 : Inv X pins σ H3 { s3 with heap := s3.heap.push { cls := .type "slice", data := .fields #[vl, vu, .none] } } := I3.kept (t' := s3.toks) fun b ob q => Heap.get?_push_of_some _ q
  obtain ⟨T, id, hT, ht, hg⟩ := hr pins { s3 with heap := s3.heap.push { cls := .type "slice", data := .fields #[vl, vu, .none] } } σ H3 x v vl vu l u s3.heap.objs.size Q I4 r1 (Heap.IsSliceOf.new ..) pl pu q3
  show wpAny (model X.prog X.w) X.A (subscriptTail e (.Slice lo hi none p2) v (.ref s3.heap.objs.size)) (EP X pins σ Q) X.xe { s3 with heap := s3.heap.push { cls := .type "slice", data := .fields #[vl, vu, .none] } }
  exact tail_any (ops := [.ref s3.heap.objs.size, v]) ht hT hg (by with_unfolding_all rfl)
noncomputable def cutV (xs : List V) (lo hi : Option Int) : List V := (xs.drop (HT.sIx xs.length 0 lo)).take (HT.sIx xs.length xs.length hi - HT.sIx xs.length 0 lo)
theorem cutV_length (xs : List V) (lo hi : Option Int) : (cutV xs lo hi).length ≤ xs.length := by
  unfold cutV
  rw [List.length_take, List.length_drop]
  omega
noncomputable def rSlT (K : PySem.W.Frag) : V → Option Int → Option Int → Hp → VK → Prop := fun x lo hi H Q => ∃ a xs, x = .ref a ∧ SqT K H a xs ∧
  ¬ (HT.sIx xs.length 0 lo = 0 ∧ HT.sIx xs.length xs.length hi = xs.length) ∧ ∀ p, H p = none → Q (.ref p) (upd H p (.tup (cutV xs lo hi)))
theorem sl_tup : SlR X (rSlT X.K) := by
  intro pins s σ H x v vl vu lo hi sl Q I rx hs pl pu h
  obtain ⟨a, xs, rfl, hx, hw, q⟩ := h
  cases rx
  obtain ⟨its, r, ht, hz⟩ := I.tuple hx
  have hlen : its.toArray.size = xs.length := by rw [List.size_toArray]; exact r.length.symm
  refine ⟨"tuple", _, PyProof.Rows.slot_tuple_getitem.lookup, ht.typeIs, ?_⟩
  refine HT.getItem_tuple_cut ht hs pl pu (by rw [hlen]; exact hw) ?_ (by rw [hlen]; exact hz)
  rw [hlen]
  refine ⟨.ref s.heap.objs.size, _, I.laid (t' := s.toks) (o := .tup (cutV xs lo hi)) (fun b ob q => Heap.get?_push_of_some _ q) (Nat.le_refl _) ?_, rfl, q _ (I.hok.fresh (Nat.le_refl _))⟩
  exact ⟨Nat.le_trans (cutV_length xs lo hi) hz, _, (r.drop (HT.sIx xs.length 0 lo)).take (HT.sIx xs.length xs.length hi - HT.sIx xs.length 0 lo), IsTD.new _ _⟩
noncomputable def rCatT (K : PySem.W.Frag) : R2 := fun x y H Q => ∃ a b xs ys, x = .ref a ∧ y = .ref b ∧ SqT K H a xs ∧ SqT K H b ys ∧ xs ≠ [] ∧ xs.length + ys.length ≤ sizeLine ∧
  (ys = [] → Q (.ref a) H) ∧ (ys ≠ [] → ∀ p, H p = none → Q (.ref p) (upd H p (.tup (xs ++ ys))))
theorem Vals.nil_iff {xs : List V} {us : List Value} (r : Vals xs us) : us = [] ↔ xs = [] := by
  cases r with
  | nil => simp
  | cons _ _ => simp
theorem op_catT : OpR X (binaryOp .Add) (rCatT X.K) := by
  intro pins s σ H x y v u Q I rx ry h
  obtain ⟨a, b, xs, ys, rfl, rfl, ha, hb, hx, hz, q1, q2⟩ := h
  cases rx
  cases ry
  obtain ⟨its, r1, p1, _⟩ := I.tuple ha
  obtain ⟨its2, r2, p2, _⟩ := I.tuple hb
  refine HT.cat_tup p1 p2 (fun z => hx (r1.nil_iff.mp z)) (fun z => ⟨.ref a, H, I, rfl, q1 (r2.nil_iff.mp z)⟩) (fun z => ?_) (by rw [← r1.length, ← r2.length]; exact hz)
  refine ⟨.ref s.heap.objs.size, _, I.laid (t' := s.toks) (o := .tup (xs ++ ys)) (fun b ob q => Heap.get?_push_of_some _ q) (Nat.le_refl _) ?_, rfl, q2 (fun w => z (r2.nil_iff.mpr w)) _ (I.hok.fresh (Nat.le_refl _))⟩
  exact ⟨by rw [List.length_append]; exact hz, _, r1.append r2, IsTD.new _ _⟩
end
end L2
namespace L2
open PySem PySem.Spec PyProof.Rows
noncomputable def ixN (n : Nat) (i : Int) : Option Nat := if 0 ≤ i then (if i < n then some i.toNat else none) else if -(n : Int) ≤ i then some (i + n).toNat else none
noncomputable def atI {α : Type} (xs : List α) (i : Int) : Option α := (ixN xs.length i).bind fun j => xs[j]?
theorem ixN_seq {n : Nat} {i : Int} {j : Nat} (h : ixN n i = some j) : seqIndex? i n = some j ∧ j < n ∧ -(n : Int) ≤ i ∧ i < n := by
  unfold ixN at h
  by_cases h0 : 0 ≤ i
  · rw [if_pos h0] at h
    by_cases h1 : i < n
    · rw [if_pos h1] at h
      have e : i.toNat = j := Option.some.inj h
      exact ⟨by rw [seqIndex_of h0 h1, e], by omega, by omega, h1⟩
    · rw [if_neg h1] at h; cases h
  · rw [if_neg h0] at h
    by_cases h1 : -(n : Int) ≤ i
    · rw [if_pos h1] at h
      have e : (i + n).toNat = j := Option.some.inj h
      exact ⟨by rw [seqIndex_neg (by omega) h1, e], by omega, h1, by omega⟩
    · rw [if_neg h1] at h; cases h
theorem atI_get {α : Type} {xs : List α} {i : Int} {v : α} (h : atI xs i = some v) : ∃ j, seqIndex? i xs.length = some j ∧ xs[j]? = some v ∧ j < xs.length ∧ -(xs.length : Int) ≤ i ∧ i < xs.length := by
  unfold atI at h
  cases e : ixN xs.length i with
  | none => rw [e] at h; cases h
  | some j =>
    rw [e] at h
    obtain ⟨h1, h2, h3, h4⟩ := ixN_seq e
    exact ⟨j, h1, h, h2, h3, h4⟩
noncomputable def PlainIx (b : Expr) : Prop := ∀ o i, subscripted b false o i = operate [o, i] (getItem o i)
noncomputable def IxR (X : Cx) (r : R2) : Prop :=
  ∀ (value slice : Expr) (pins : List (Addr × Obj)) (s : Shared) (σ : St) (H : Hp) (x y : V) (v u : Value) (Q : VK), Inv X pins σ H s → RelV x v → RelV y u → r x y H Q →
    subscripted slice false v u = operate [v, u] (getItem v u) → wpAny (model X.prog X.w) X.A (subscriptTail value slice v u) (EP X pins σ Q) X.xe s
noncomputable def MtR (X : Cx) (id : String) (r : V → List V → Hp → VK → Prop) : Prop :=
  ∀ (pins : List (Addr × Obj)) (s : Shared) (σ : St) (H : Hp) (x : V) (xs : List V) (v : Value) (us : List Value) (Q : VK), Inv X pins σ H s → RelV x v → Vals xs us → r x xs H Q →
    wpAny (model X.prog X.w) X.A (call (.builtin id) (v :: us)) (EP X pins σ Q) X.xe s
section
variable {X : Cx} {a b : Expr} {ta tb : TE} {pos : Pos}
theorem IxR.or {r r' : R2} (h : IxR X r) (h' : IxR X r') : IxR X (fun x y H Q => r x y H Q ∨ r' x y H Q) := by
  intro value slice pins s σ H x y v u Q I rx ry q hs
  rcases q with q | q
  · exact h value slice pins s σ H x y v u Q I rx ry q hs
  · exact h' value slice pins s σ H x y v u Q I rx ry q hs
theorem MtR.or {id : String} {r r' : V → List V → Hp → VK → Prop} (h : MtR X id r) (h' : MtR X id r') : MtR X id (fun x xs H Q => r x xs H Q ∨ r' x xs H Q) := by
  intro pins s σ H x xs v us Q I rx rs q
  rcases q with q | q
  · exact h pins s σ H x xs v us Q I rx rs q
  · exact h' pins s σ H x xs v us Q I rx rs q
theorem pe_ix {r : R2} (hr : IxR X r) (ha : PE X a ta) (hb : PE X b tb) (hs : PlainIx b) : PE X (.Subscript a b pos) (tOp r ta tb) := by
  intro pins s σ H Q I h
  exact Subscript_ (binT ha hb I h fun v u s2 x y H2 I2 rx ry q => hr a b pins s2 σ H2 x y v u Q I2 rx ry q (hs _ _))
noncomputable def rIxL (K : PySem.W.Frag) : R2 := fun x y H Q => ∃ p xs i v, x = .ref p ∧ y = .int i ∧ SqL K H p xs ∧ atI xs i = some v ∧ Q v H
noncomputable def rIxT (K : PySem.W.Frag) : R2 := fun x y H Q => ∃ p xs i v, x = .ref p ∧ y = .int i ∧ SqT K H p xs ∧ atI xs i = some v ∧ Q v H
noncomputable def rIxS : R2 := fun x y H Q => ∃ z i c, x = .str z ∧ y = .int i ∧ z.length ≤ sizeLine ∧ atI z.cps.toList i = some c ∧ Q (.str ⟨#[c]⟩) H
theorem ix_list : IxR X (rIxL X.K) := by
  intro value slice pins s σ H x y v u Q I rx ry h hs
  obtain ⟨p, xs, i, z, rfl, rfl, hq, he, q⟩ := h
  cases rx
  obtain ⟨t, rfl⟩ := ry
  obtain ⟨its, r, pl, hz⟩ := I.list hq
  obtain ⟨j, h1, h2, h3, h4, h5⟩ := atI_get he
  obtain ⟨w, ew, rw'⟩ := r.get h2
  have hl := r.length
  have hn := line63
  have fin : EP X pins σ Q w s := ⟨z, H, I, rw', q⟩
  by_cases h0 : 0 ≤ i
  · have hj : i.toNat = j := by
      rw [seqIndex_of h0 h5] at h1
      exact Option.some.inj h1
    exact item_listR pl.isList h0 (by omega) (by rw [hj]; simpa using ew) fin hs
  · have hj : (i + (its.toArray.size : Int)).toNat = j := by
      rw [seqIndex_neg (by omega) h4] at h1
      rw [List.size_toArray, ← hl]
      exact Option.some.inj h1
    exact subscriptTail_builtinR (x := w) pl.isList.typeIs slot_list_getitem.lookup
      (wpAny_getItem_list_neg (Q := fun r s' => r = w ∧ EP X pins σ Q r s') pl.isList (by omega) (by rw [List.size_toArray] <;> omega) (by omega) (by rw [hj]; simpa using ew) ⟨rfl, fin⟩) hs
theorem ix_tup : IxR X (rIxT X.K) := by
  intro value slice pins s σ H x y v u Q I rx ry h hs
  obtain ⟨p, xs, i, z, rfl, rfl, hq, he, q⟩ := h
  cases rx
  obtain ⟨t, rfl⟩ := ry
  obtain ⟨its, r, pl, hz⟩ := I.tuple hq
  obtain ⟨j, h1, h2, h3, h4, h5⟩ := atI_get he
  obtain ⟨w, ew, rw'⟩ := r.get h2
  have hl := r.length
  have hn := line63
  have fin : EP X pins σ Q w s := ⟨z, H, I, rw', q⟩
  exact subscriptTail_builtinR (x := w) pl.typeIs slot_tuple_getitem.lookup
    (getItem_tuple (j := j) (Q := fun r s' => r = w ∧ EP X pins σ Q r s') pl (by omega) (by omega) (by rw [List.size_toArray, ← hl]; exact h1) (by simpa using ew) ⟨rfl, fin⟩) hs
theorem ix_str : IxR X rIxS := by
  intro value slice pins s σ H x y v u Q I rx ry h hs
  obtain ⟨z, i, c, rfl, rfl, hz, he, q⟩ := h
  obtain ⟨t, rfl⟩ := rx
  obtain ⟨t', rfl⟩ := ry
  obtain ⟨j, h1, h2, h3, h4, h5⟩ := atI_get he
  have hl : z.cps.toList.length = z.length := by simp [Str.length]
  rw [hl] at h1 h4 h5
  have hn := line63
  exact tail_any (typeIs_str s z t) slot_str_getitem.lookup (getItem_str (c := c) (by
    have e1 : decide (i < -(2 ^ 63 : Int)) = false := decide_eq_false (by omega)
    have e2 : decide (i ≥ 2 ^ 63) = false := decide_eq_false (by omega)
    rw [e1, e2, Bool.or_false]) (by rw [h1]; simpa using h2) ⟨.str ⟨#[c]⟩, H, I.tok _, ⟨_, rfl⟩, q⟩) hs
noncomputable def rIx (K : PySem.W.Frag) : R2 := fun x y H Q => rIxL K x y H Q ∨ rIxT K x y H Q ∨ rIxS x y H Q
theorem ix_seq : IxR X (rIx X.K) := ix_list.or (ix_tup.or ix_str)
theorem mapSeq_set (its : List Value) (n j : Nat) (u : Value) : Obj.mapSeq (·.setIfInBounds j u) { cls := .type "list", data := .seq its.toArray n } = { cls := .type "list", data := .seq (its.set j u).toArray n } := by
  simp [Obj.mapSeq]
theorem Inv.lst {pins : List (Addr × Obj)} {σ : St} {H : Hp} {s : Shared} {p : Addr} {xs : List V} (I : Inv X pins σ H s) (h : H p = some (.lst xs)) :
    ∃ (its : List Value) (n : Nat), Vals xs its ∧ s.heap.get? p = some { cls := .type "list", data := .seq its.toArray n } ∧ xs.length ≤ sizeLine := by
  obtain ⟨z, its, n, r, e⟩ := I.hok p _ h
  exact ⟨its, n, r, e, z⟩
theorem Inv.lstUpd {pins : List (Addr × Obj)} {σ : St} {H : Hp} {s : Shared} {p : Addr} {xs ys : List V} {its its' : List Value} {n n' : Nat} {f : Obj → Obj} (I : Inv X pins σ H s) (h : H p = some (.lst xs))
    (ho : s.heap.get? p = some { cls := .type "list", data := .seq its.toArray n }) (hf : f { cls := .type "list", data := .seq its.toArray n } = { cls := .type "list", data := .seq its'.toArray n' }) (r : Vals ys its') (hz : ys.length ≤ sizeLine) (t : Nat) :
    Inv X pins σ (upd H p (.lst ys)) { s with heap := s.heap.update p f, toks := t } := by
  have e : (s.heap.update p f).get? p = some { cls := .type "list", data := .seq its'.toArray n' } := by
    rw [Heap.get?_update_self f ho (by rw [hf] <;> rfl), hf]
  refine I.write (x := p) (e := p) (by rw [h]; trivial) (.inl rfl) (fun b u hb q => (Heap.get?_update_other _ _ (Ne.symm hb)).trans q) ⟨_, e⟩ ?_
  exact ⟨hz, its', n', r, e⟩
noncomputable def rSetL : V → V → V → Hp → (Hp → Prop) → Prop := fun o i v H Q => ∃ p xs k j, o = .ref p ∧ i = .int k ∧ H p = some (.lst xs) ∧ ixN xs.length k = some j ∧ Q (upd H p (.lst (xs.set j v)))
theorem set_list : PSet X rSetL := by
  intro pins s σ H o i v ov iv u Q I ro ri rv h
  obtain ⟨p, xs, k, j, rfl, rfl, hp, hj, q⟩ := h
  cases ro
  obtain ⟨t, rfl⟩ := ri
  obtain ⟨its, n, r, ho, hz⟩ := I.lst hp
  obtain ⟨h1, h2, h3, h4⟩ := ixN_seq hj
  have hl := r.length
  have hn := line63
  have I' : Inv X pins σ (upd H p (.lst (xs.set j v))) { s with heap := s.heap.update p (Obj.mapSeq (·.setIfInBounds j u)) } :=
    I.lstUpd hp ho (mapSeq_set its n j u) (r.set rv j) (by rw [List.length_set]; exact hz) s.toks
  by_cases h0 : 0 ≤ k
  · have hk : k.toNat = j := by
      rw [seqIndex_of h0 h4] at h1
      exact Option.some.inj h1
    exact PySem.W.ki_setAt ho h0 (by omega) (by rw [List.size_toArray, ← hl]; exact h4) (by rw [hk]; exact ⟨_, I', q⟩)
  · have hk : (k + (its.toArray.size : Int)).toNat = j := by
      rw [seqIndex_neg (by omega) h3] at h1
      rw [List.size_toArray, ← hl]
      exact Option.some.inj h1
    exact PySem.W.ki_setBack ho (by omega) (by rw [List.size_toArray, ← hl]; exact h3) (by omega) (by rw [hk]; exact ⟨_, I', q⟩)
theorem slice_bounds (lo hi : Option Int) (n : Nat) : (sliceBounds lo hi none n).1 = ((HT.sIx n 0 lo : Nat) : Int) ∧ (sliceBounds lo hi none n).2.1 = ((HT.sIx n n hi : Nat) : Int) ∧ (sliceBounds lo hi none n).2.2 = 1 := by
  refine ⟨?_, ?_, rfl⟩
  · cases lo with
    | none => simp [sliceBounds, HT.sIx]
    | some i =>
      simp only [sliceBounds, HT.sIx, Option.getD_none, show (1 : Int) > 0 by decide, if_true]
      by_cases h : i < 0
      · simp only [h, if_true] <;> omega
      · simp only [h, if_false] <;> omega
  · cases hi with
    | none => simp [sliceBounds, HT.sIx]
    | some i =>
      simp only [sliceBounds, HT.sIx, Option.getD_none, show (1 : Int) > 0 by decide, if_true]
      by_cases h : i < 0
      · simp only [h, if_true] <;> omega
      · simp only [h, if_false] <;> omega
theorem slicePick_cut (its : List Value) (lo hi : Option Int) : slicePick its.toArray lo hi none = ((its.drop (HT.sIx its.length 0 lo)).take (HT.sIx its.length its.length hi - HT.sIx its.length 0 lo)).toArray := by
  obtain ⟨h1, h2, h3⟩ := slice_bounds lo hi its.toArray.size
  unfold slicePick
  rw [h1, h2, h3]
  simp only [sliceRange_one, pick_run, List.size_toArray] <;> rfl
noncomputable def rSlL (K : PySem.W.Frag) : V → Option Int → Option Int → Hp → VK → Prop := fun x lo hi H Q => ∃ a xs, x = .ref a ∧ SqL K H a xs ∧ ∀ p, H p = none → Q (.ref p) (upd H p (.lst (cutV xs lo hi)))
theorem sl_list : SlR X (rSlL X.K) := by
  intro pins s σ H x v vl vu lo hi sl Q I rx hs pl pu h
  obtain ⟨a, xs, rfl, hx, q⟩ := h
  cases rx
  obtain ⟨its, r, ht, hz⟩ := I.list hx
  have hlen := r.length
  refine ⟨"list", _, slot_list_getitem.lookup, ht.isList.typeIs, ?_⟩
  refine wpAny_getItem_list_slice ht.isList hs pl pu .none (by simp) ?_ (by rw [List.size_toArray] <;> omega)
  rw [slicePick_cut, ← hlen]
  refine ⟨.ref s.heap.objs.size, _, I.laid (t' := s.toks) (o := .lst (cutV xs lo hi)) (fun b ob q => Heap.get?_push_of_some _ q) (Nat.le_refl _) ?_, rfl, q _ (I.hok.fresh (Nat.le_refl _))⟩
  exact ⟨Nat.le_trans (cutV_length xs lo hi) hz, _, 0, (r.drop (HT.sIx xs.length 0 lo)).take (HT.sIx xs.length xs.length hi - HT.sIx xs.length 0 lo), Heap.get?_push_size _ rfl⟩
theorem call_len_seq : CallR X (.builtin "len") (fun xs H Q => ∃ p ys, xs = [.ref p] ∧ (SqL X.K H p ys ∨ SqT X.K H p ys) ∧ Q (.int ys.length) H) := by
  intro pins s σ H xs us Q I r h
  obtain ⟨p, ys, rfl, hq, q⟩ := h
  obtain ⟨u, rfl, rx⟩ := vals1 r
  cases rx
  have hn := line63
  rcases hq with hq | hq
  · obtain ⟨its, r', pl, hz⟩ := I.list hq
    have hlen := r'.length
    exact Calls.call_len_list pl.isList (by simp only [List.size_toArray] <;> omega) ⟨.int ys.length, H, I.tok _, ⟨s.toks + 1, by rw [List.size_toArray, hlen]⟩, q⟩
  · obtain ⟨its, r', pl, hz⟩ := I.tuple hq
    have hlen := r'.length
    exact len_tuple pl (by simp only [List.size_toArray] <;> omega) ⟨.int ys.length, H, I.tok _, ⟨s.toks + 1, by rw [List.size_toArray, hlen]⟩, q⟩
theorem call_len_str : CallR X (.builtin "len") (fun xs H Q => ∃ z, xs = [.str z] ∧ z.length ≤ sizeLine ∧ Q (.int z.length) H) := by
  intro pins s σ H xs us Q I r h
  obtain ⟨z, rfl, hz, q⟩ := h
  obtain ⟨u, rfl, t, rfl⟩ := vals1 r
  have hn := line63
  exact len_str (by omega) ⟨.int z.length, H, I.tok _, ⟨_, rfl⟩, q⟩
theorem CallR.or {f : Value} {r r' : List V → Hp → VK → Prop} (h : CallR X f r) (h' : CallR X f r') : CallR X f (fun xs H Q => r xs H Q ∨ r' xs H Q) := by
  intro pins s σ H xs us Q I rs q
  rcases q with q | q
  · exact h pins s σ H xs us Q I rs q
  · exact h' pins s σ H xs us Q I rs q
theorem call_list_of : CallR X (.type "list") (fun xs H Q => ∃ p ys, xs = [.ref p] ∧ (SqL X.K H p ys ∨ SqT X.K H p ys) ∧ ∀ l, H l = none → Q (.ref l) (upd H l (.lst ys))) := by
  intro pins s σ H xs us Q I r h
  obtain ⟨p, ys, rfl, hq, q⟩ := h
  obtain ⟨u, rfl, rx⟩ := vals1 r
  cases rx
  have fin : ∀ (its : List Value), Vals ys its → ys.length ≤ sizeLine → ∀ (h' : Heap) (c' : Nat), (∀ b o', s.heap.get? b = some o' → h'.get? b = some o') →
      h'.get? s.heap.objs.size = some { cls := .type "list", dict := none, data := .seq its.toArray c', slots := #[] } → EP X pins σ Q (.ref s.heap.objs.size) { s with heap := h' } := fun its r' hz h' c' kp e =>
    ⟨.ref s.heap.objs.size, _, I.laid (t' := s.toks) kp (Nat.le_refl _) (show ObjOk X.prog X.w _ h' _ (.lst ys) from ⟨hz, its, c', r', e⟩), rfl, q _ (I.hok.fresh (Nat.le_refl _))⟩
  rcases hq with hq | hq
  · obtain ⟨its, r', pl, hz⟩ := I.list hq
    have hlen := r'.length
    obtain ⟨o, ho, hc, n, hd⟩ := pl.isList
    exact call_list_seq p (.inl rfl) ho hc hd (fun h' c' kp e => fin its r' hz h' c' kp e) (by simp only [List.size_toArray] <;> omega)
  · obtain ⟨its, r', pl, hz⟩ := I.tuple hq
    have hlen := r'.length
    obtain ⟨o, ho, hc, n, hd⟩ := pl
    exact call_list_seq p (.inr rfl) ho hc hd (fun h' c' kp e => fin its r' hz h' c' kp e) (by simp only [List.size_toArray] <;> omega)
theorem call_tuple_of : CallR X (.type "tuple") (fun xs H Q => ∃ p ys, xs = [.ref p] ∧ ((SqL X.K H p ys ∧ ∀ l, H l = none → Q (.ref l) (upd H l (.tup ys))) ∨ (SqT X.K H p ys ∧ Q (.ref p) H))) := by
  intro pins s σ H xs us Q I r h
  obtain ⟨p, ys, rfl, h⟩ := h
  obtain ⟨u, rfl, rx⟩ := vals1 r
  cases rx
  rcases h with ⟨hq, q⟩ | ⟨hq, q⟩
  · obtain ⟨its, r', pl, hz⟩ := I.list hq
    have hlen := r'.length
    refine call_tuple_list pl.isList (fun h' kp => ?_) (by simp only [List.size_toArray] <;> omega)
    have I1 : Inv X pins σ H { s with heap := h' } := I.kept (t' := s.toks) kp
    have I2 : Inv X pins σ (upd H h'.objs.size (.tup ys)) { s with heap := h'.push { cls := .type "tuple", data := .seq its.toArray } } :=
      I1.laid (t' := s.toks) (fun b o e => Heap.get?_push_of_some _ e) (Nat.le_refl _) (show ObjOk X.prog X.w _ _ _ (.tup ys) from ⟨hz, its, r', IsTD.new _ _⟩)
    exact ⟨.ref h'.objs.size, _, I2, rfl, q _ (I1.hok.fresh (Nat.le_refl _))⟩
  · obtain ⟨its, r', pl, hz⟩ := I.tuple hq
    exact call_tuple_same pl ⟨.ref p, H, I, rfl, q⟩
noncomputable def tyV (K : PySem.W.Frag) (T : String) (x : V) (H : Hp) : Prop := match x with
  | .str _ => T = "str"
  | .int _ => T = "int"
  | .ref p => (T = "list" ∧ ∃ xs, SqL K H p xs) ∨ (T = "tuple" ∧ ∃ o, K.lookup p = some o ∧ o.cls = .type "tuple" ∧ o.dict = none) ∨
      (T = "dict" ∧ ((∃ kvs, H p = some (.dK kvs)) ∨ ∃ kvs, H p = some (.dT kvs))) ∨ (T = "set" ∧ ∃ S n, H p = some (.set S n))
  | _ => False
theorem tyV_is {pins : List (Addr × Obj)} {σ : St} {H : Hp} {s : Shared} {T : String} {x : V} {v : Value} (I : Inv X pins σ H s) (r : RelV x v) (ty : tyV X.K T x H) :
    s.TypeIs v T ∧ ∀ a, v = .ref a → ∃ ob, s.heap.get? a = some ob ∧ ob.dict = none := by
  cases x with
  | str z =>
    obtain ⟨t, rfl⟩ := r
    cases (show T = "str" from ty)
    exact ⟨typeIs_str s z t, fun _ e => nomatch e⟩
  | int i =>
    obtain ⟨t, rfl⟩ := r
    cases (show T = "int" from ty)
    exact ⟨typeIs_int s i t, fun _ e => nomatch e⟩
  | ref p =>
    cases r
    rcases ty with ⟨rfl, xs, hq⟩ | ⟨rfl, o, hk, hc, hd⟩ | ⟨rfl, hk⟩ | ⟨rfl, S, n, hk⟩
    · obtain ⟨its, _, pl, _⟩ := I.list hq
      refine ⟨pl.isList.typeIs, fun a e => ?_⟩
      cases e
      obtain ⟨o, n, e, c, hd, _⟩ := pl
      exact ⟨o, e, hd⟩
    · refine ⟨⟨o, I.kIn p o hk, hc⟩, fun a e => ?_⟩
      cases e
      exact ⟨o, I.kIn _ o hk, hd⟩
    · have z : ∃ o, s.heap.get? p = some o ∧ o.ExactDict := by
        rcases hk with ⟨kvs, hk⟩ | ⟨kvs, hk⟩
        · obtain ⟨_, _, _, _, o, _, _, e, ex, _⟩ := I.hok p _ hk
          exact ⟨o, e, ex⟩
        · obtain ⟨_, _, _, _, o, _, _, e, ex, _⟩ := I.hok p _ hk
          exact ⟨o, e, ex⟩
      obtain ⟨o, e, ex⟩ := z
      refine ⟨⟨o, e, ex.1⟩, fun a e2 => ?_⟩
      cases e2
      exact ⟨o, e, ex.2.1⟩
    · obtain ⟨o, _, _, _, e, ex, _⟩ := I.hok p _ hk
      refine ⟨⟨o, e, ex.1⟩, fun a e2 => ?_⟩
      cases e2
      exact ⟨o, e, ex.2.1⟩
  | _ => exact False.elim ty
noncomputable def tBM (K : PySem.W.Frag) (T : String) (r : V → List V → Hp → VK → Prop) (to : TE) (t : TA) : TE := fun σ H Q => to σ H fun x H1 => tyV K T x H1 ∧ t σ H1 fun xs H2 => r x xs H2 Q
variable {o e : Expr} {es : List Expr} {to : TE} {t : TA} {name : Str} {apos cpos : Pos} {T id : String} {r : V → List V → Hp → VK → Prop}
theorem pe_bm (pa : PlainAttrs T) (slot : Slot T name id) (hty : typeOf (.builtin id) = pure (.type "method_descriptor")) (hm : MtR X id r) (ho : PE X o to) (ha : PA X (e :: es) t)
    (hbase : attributeBase o name X.env (eval o X.env) = eval o X.env := by rfl)
    (hfew : ((backTo cpos (starEach (e :: es) X.env)).all (fun x => !x.1) && (backToKw cpos (keywordEach [] X.env)).all (fun x => x.1.isSome)
      && decide ((e :: es).length + ([] : List Keyword).length + (if ([] : List Keyword).isEmpty then 0 else 1) < 30)) = true := by rfl)
    (hline : (apos.endLine == cpos.line) = true := by rfl) (hs : starEach (e :: es) X.env = (false, eval e X.env) :: starEach es X.env := by rfl) (hplain : (backTo cpos (starEach es X.env)).any (·.1) = false := by rfl) :
    PE X (.Call (.Attribute o name apos) (e :: es) [] cpos) (tBM X.K T r to t) := by
  intro pins s σ H Q I h
  refine wpAny_Call_method_late hbase hfew hline rfl (thn (ho pins s σ H _ I h) fun v s1 ⟨x, H1, I1, r1, ty, q1⟩ => ?_)
  obtain ⟨h1, h2⟩ := tyV_is I1 r1 ty
  refine ⟨T, id, pa, slot, hty, h1, h2, ?_⟩
  have hA := ha cpos pins s1 σ H1 _ I1 q1
  rw [hs] at hA ⊢
  refine Calls.callWith_builtin (by show (false || (backTo cpos (starEach es X.env)).any (·.1)) = false; rw [hplain] <;> rfl) (Calls.evalArgs_plain ?_)
  exact thn hA fun us s2 ⟨vs, H2, I2, r2, q2⟩ => hm pins s2 σ H2 x vs v us Q I2 r1 r2 q2
end
end L2
namespace L2
open PySem PySem.Spec PyProof.Rows
noncomputable def MtM (X : Cx) (id : String) (r : V → List V → Hp → VK → Prop) : Prop :=
  ∀ (pins : List (Addr × Obj)) (s : Shared) (σ : St) (H : Hp) (x : V) (xs : List V) (v : Value) (us : List Value) (Q : VK), Inv X pins σ H s → RelV x v → Vals xs us → r x xs H Q →
    wpAny (model X.prog X.w) X.A (call (.builtin id) (v :: us)) (EP X pins σ Q) X.xe s
theorem Vals.one : ∀ {x : V} {us : List Value}, Vals [x] us → ∃ u, us = [u] ∧ RelV x u
  | _, _, .cons r .nil => ⟨_, rfl, r⟩
theorem Vals.two {x y : V} {us : List Value} (h : Vals [x, y] us) : ∃ u v, us = [u, v] ∧ RelV x u ∧ RelV y v := by
  cases h with
  | cons r t =>
    cases t with
    | cons q t2 => cases t2; exact ⟨_, _, rfl, r, q⟩
theorem Vals.zero : ∀ {us : List Value}, Vals [] us → us = []
  | _, .nil => rfl
theorem Vals.dropLast {xs : List V} {us : List Value} (h : Vals xs us) : Vals xs.dropLast us.dropLast := by
  induction h with
  | nil => exact .nil
  | cons r t ih =>
    cases t with
    | nil => exact .nil
    | cons q t' => exact .cons r ih
theorem Vals.eraseIdx : ∀ {xs : List V} {us : List Value} (i : Nat), Vals xs us → Vals (xs.eraseIdx i) (us.eraseIdx i)
  | _, _, _, .nil => .nil
  | _, _, 0, .cons _ t => t
  | _, _, i + 1, .cons r t => .cons r (Vals.eraseIdx i t)
theorem Vals.rep {xs : List V} {us : List Value} (h : Vals xs us) : ∀ k : Nat, Vals (List.replicate k xs).flatten (List.replicate k us).flatten
  | 0 => .nil
  | k + 1 => by
    rw [List.replicate_succ, List.replicate_succ, List.flatten_cons, List.flatten_cons]
    exact Vals.append h (Vals.rep h k)
theorem len_erase {α : Type} : ∀ (l : List α) (i : Nat), (l.eraseIdx i).length ≤ l.length
  | [], _ => Nat.le_refl _
  | _ :: _, 0 => Nat.le_succ _
  | _ :: r, i + 1 => Nat.succ_le_succ (len_erase r i)
theorem foldl_rep (its : List Value) : ∀ (k : Nat) (acc : List Value),
    List.foldl (fun x1 x2 => x1 ++ x2) acc.toArray (List.replicate k its.toArray) = (acc ++ (List.replicate k its).flatten).toArray
  | 0, acc => by simp
  | k + 1, acc => by
    have e : acc.toArray ++ its.toArray = (acc ++ its).toArray := by simp
    have e2 : (acc ++ its) ++ (List.replicate k its).flatten = acc ++ (List.replicate (k + 1) its).flatten := by
      rw [List.replicate_succ, List.flatten_cons, List.append_assoc]
    rw [← e2, ← foldl_rep its k (acc ++ its), ← e, List.replicate_succ, List.foldl_cons]
section
variable {X : Cx} {pins : List (Addr × Obj)} {σ : St} {H : Hp} {s : Shared} {l b : Addr} {xs ys zs : List V}
theorem Inv.lset {its its' : List Value} {n : Nat} {f : Array Value → Array Value} {t' : Nat} (I : Inv X pins σ H s) (hH : H l = some (.lst xs))
    (e : s.heap.get? l = some { cls := .type "list", data := .seq its.toArray n }) (hf : f its.toArray = its'.toArray) (hv : Vals ys its') (hz : ys.length ≤ sizeLine) :
    Inv X pins σ (upd H l (.lst ys)) { s with heap := s.heap.update l (Obj.mapSeq f), toks := t' } := by
  have q := PySem.IsL.update e f
  rw [hf] at q
  refine I.write (x := l) (e := l) (by rw [hH]; exact trivial) (.inl rfl) (fun b' u hb hu => (Heap.get?_update_other s.heap (Obj.mapSeq f) (Ne.symm hb)).trans hu) ⟨_, q⟩ ?_
  exact ⟨hz, its', _, hv, q⟩
theorem Inv.lnew {its : List Value} {t' : Nat} (I : Inv X pins σ H s) (hv : Vals ys its) (hz : ys.length ≤ sizeLine) :
    Inv X pins σ (upd H s.heap.objs.size (.lst ys)) { s with heap := s.heap.push { cls := .type "list", data := .seq its.toArray }, toks := t' } :=
  I.laid (fun _ _ q => Heap.get?_push_of_some _ q) (Nat.le_refl _) ⟨hz, its, 0, hv, Heap.get?_push_size _ rfl⟩
theorem Inv.fresh (I : Inv X pins σ H s) : H s.heap.objs.size = none := I.hok.fresh (Nat.le_refl _)
theorem Inv.lstM (I : Inv X pins σ H s) (hH : H l = some (.lst xs)) : xs.length ≤ sizeLine ∧ ∃ (its : List Value) (n : Nat), Vals xs its ∧ xs.length = its.length ∧ s.heap.get? l = some { cls := .type "list", data := .seq its.toArray n } := by
  obtain ⟨z, its, n, r, e⟩ := I.hok l _ hH
  exact ⟨z, its, n, r, r.length, e⟩
end
section
variable {X : Cx}
noncomputable def rAppend : V → List V → Hp → VK → Prop := fun x vs H Q => ∃ l xs y, x = .ref l ∧ vs = [y] ∧ H l = some (.lst xs) ∧ xs.length < sizeLine ∧ Q .non (upd H l (.lst (xs ++ [y])))
theorem mt_append : MtM X "list.append" rAppend := by
  intro pins s σ H x vs v us Q I rx rv h
  obtain ⟨l, xs, y, rfl, rfl, hH, hz, q⟩ := h
  cases rx
  obtain ⟨u, rfl, ru⟩ := rv.one
  obtain ⟨z, its, n, r, hl, e⟩ := I.lstM hH
  refine call_meets F.slot_list_append ⟨_, e, rfl⟩ F.entry_list_append (F.args_list_append_2 _ _) (PySem.list_append l its.toArray n u (by rw [List.size_toArray]; omega)) ⟨e, ?_⟩
  refine ⟨.non, _, I.lset (its' := its ++ [u]) hH e (by simp) (r.append (.cons ru .nil)) ?_, rfl, q⟩
  rw [List.length_append, List.length_singleton]
  omega
noncomputable def rPopAt : V → List V → Hp → VK → Prop := fun x vs H Q => ∃ l xs i k y, x = .ref l ∧ vs = [.int i] ∧ H l = some (.lst xs) ∧ -(2 ^ 63) ≤ i ∧ i < 2 ^ 63 ∧ seqIndex? i xs.length = some k ∧ xs[k]? = some y ∧ Q y (upd H l (.lst (xs.eraseIdx k)))
theorem mt_popAt : MtM X "list.pop" rPopAt := by
  intro pins s σ H x vs v us Q I rx rv h
  obtain ⟨l, xs, i, k, y, rfl, rfl, hH, h1, h2, hk, hy, q⟩ := h
  cases rx
  obtain ⟨u, rfl, ru⟩ := rv.one
  obtain ⟨t, rfl⟩ := ru
  obtain ⟨z, its, n, r, hl, e⟩ := I.lstM hH
  obtain ⟨w, hw, rw'⟩ := r.get hy
  refine call_meets F.slot_list_pop ⟨_, e, rfl⟩ F.entry_list_pop (F.args_list_pop_2 _ _)
    (MeetsSeq.list_pop_at l its.toArray n i t k w (fitsIndex_both h1 h2) (by rw [List.size_toArray, ← hl]; exact hk) (by rw [← Array.getElem?_toList]; exact hw) (by rw [List.size_toArray]; omega)) ⟨e, ?_⟩
  refine ⟨y, _, I.lset (its' := its.eraseIdx k) hH e ?_ (r.eraseIdx k) ?_, rw', q⟩
  · show its.toArray.eraseIdxIfInBounds k = (its.eraseIdx k).toArray
    rw [List.eraseIdxIfInBounds_toArray]
  · have := len_erase xs k
    omega
noncomputable def rCat : R2 := fun x y H Q => ∃ l b xs zs, x = .ref l ∧ y = .ref b ∧ H l = some (.lst xs) ∧ H b = some (.lst zs) ∧ xs.length + zs.length ≤ sizeLine ∧ ∀ p, H p = none → Q (.ref p) (upd H p (.lst (xs ++ zs)))
theorem op_cat : OpR X (binaryOp .Add) rCat := by
  intro pins s σ H x y v u Q I rx ry h
  obtain ⟨l, b, xs, zs, rfl, rfl, hH, hB, hz, q⟩ := h
  cases rx
  cases ry
  obtain ⟨z, its, n, r, hl, e⟩ := I.lstM hH
  obtain ⟨z2, its2, n2, r2, hl2, e2⟩ := I.lstM hB
  refine PySem.P.add_list e e2 ?_ (by rw [List.size_toArray, List.size_toArray]; omega)
  have ea : its.toArray ++ its2.toArray = (its ++ its2).toArray := by simp
  rw [ea]
  exact ⟨.ref _, _, I.lnew (t' := s.toks) (r.append r2) (by rw [List.length_append]; omega), rfl, q _ I.fresh⟩
theorem len_rep {α : Type} (xs : List α) (k : Nat) : (List.replicate k xs).flatten.length = k * xs.length := by
  induction k with
  | zero => simp
  | succ k ih => rw [List.replicate_succ, List.flatten_cons, List.length_append, ih, Nat.succ_mul, Nat.add_comm]
end
section
variable {prog : Program} {w : World} {A : Around} {E : Value → Shared → Prop} {s : Shared}
end
section
variable {X : Cx}
end
end L2
namespace Att
open PySem PySem.W PySem.Calls PyProof.Rows
theorem ints_of_wellAll {P : Params} {h : Heap} : ∀ (ns : List Int) (vs : List Value), WellAll P h vs (ns.map WData.int) → IntsAre vs ns := by
  intro ns
  induction ns with
  | nil =>
    intro vs w
    rw [List.map_nil] at w
    cases w
    exact .nil
  | cons n ns ih =>
    intro vs w
    rw [List.map_cons] at w
    cases w with
    | cons a b =>
      cases a
      exact .cons _ _ (ih _ b)
theorem script_of {l : OpenLaw} {n : Nat} (hn : l.most = some n) {P : Params} {h : Heap} {args : List WData} {vals : List Value}
    (hpre : l.row.toRowW.claim.pre args = true) (hwl : WellAll P h vals args) :
    ∃ a vs ns, vals = [Value.ref a] ∧ args = [WData.list (ns.map WData.int)] ∧ h.get? a = some { cls := .type "list", data := .seq vs.toArray } ∧ IntsAre vs ns ∧ ns.length ≤ n := by
  have hsh : WShape.hasAll [] args [.list .int] = true := (pre_splitW hpre).1
  have hc : l.pre.holds [] { args := args } = true := (pre_splitW hpre).2
  obtain ⟨d, r, rfl, h1, h2⟩ := hasAllW_cons hsh
  obtain rfl := hasAllW_nil h2
  obtain ⟨xs, rfl, h3⟩ := hasW_list h1
  obtain ⟨ns, rfl⟩ := items_int h3
  have hlen : ns.length ≤ n := by
    unfold OpenLaw.pre at hc
    have h4 : (WTm.not (.lt (.lit (.int (n : Int))) (.len (.arg 0)))).holds [] { args := [.list (ns.map .int)] } = true := by
      have h4 := (holds_andW hc).1
      rw [hn] at h4
      exact h4
    have h5 := condW_of h4 (w_not (w_lt w_lit (w_len_list (w_arg rfl))))
    rw [List.length_map] at h5
    refine Nat.le_of_not_lt fun q => ?_
    have q' : (n : Int) < ((ns.length : Nat) : Int) := by omega
    first
      | (rw [decide_eq_true q'] at h5; exact absurd h5 (by decide))
      | (simp at h5; omega)
  cases hwl with
  | cons w1 w2 =>
    cases w2
    cases w1 with
    | list ho hall => exact ⟨_, _, ns, rfl, rfl, ho, ints_of_wellAll ns _ hall, hlen⟩
theorem post_true (l : OpenLaw) (args : List WData) : l.row.toRowW.claim.post args (.bool true) args = true :=
  postW_of (r := l.row.toRowW) (X := (true == true))
    (show WShape.has [] (.bool true) .bool = true by first | rfl | decide | simp [WShape.has, WShape.arms, WShape.armsAll])
    (show (WTm.eq .res (.lit (.bool true))).value [] { args := args, res := some (.bool true), after := args } = some (.bool (true == true)) from w_eq_bool (w_res rfl) w_lit) rfl
theorem attach_call {l : OpenLaw} {n : Nat} {q : Program} {loose : List Str} {XP : (Str → Option Value) → Heap → Prop} {YP : World → Heap → Prop} {d : DefRec}
    (hn : l.most = some n) (hdf : d.params.defaults = [])
    (call : ∀ (w : World) (s₀ s₁ : Shared) (mg mb : Str → Option Value) (fa : Addr) (o : Obj) (pm cd doc : Value) (a : Addr) (vs : List Value) (ns : List Int),
      Ground q loose [] XP w s₀ mg mb s₁.heap → YP w s₁.heap →
      s₁.heap.get? fa = some o → o.data = .func (docDef d.name d.params d.body d.scope pm cd doc) → s₁.heap.CodeRec cd d.name → mg d.name = some (.ref fa) →
      s₁.heap.get? a = some { cls := .type "list", data := .seq vs.toArray } → IntsAre vs ns → ns.length ≤ n → s₁.gens = #[] →
      codeAny (model l.prog w) callerA (.call (.ref fa) ⟨[.ref a], []⟩) (fun r s' => r = .ok (.ret (.bool true)) ∧ OldK s₁.heap s'.heap ∧ s'.os = s₁.os ∧ AllBare s'.gens) s₁) :
    WalkO q loose XP YP l.row.toRowW d [] (fun f vs => PySem.call f vs) := by
  intro w s₀ s₁ mg mb G Y fa o pm cd doc dV kV ho hd hcd hD hmg hg args vals as hpre hlay hrd hwl hlo
  obtain rfl : dV = .none := Dflts.none hD hdf
  obtain rfl : kV = .none := Dflts.noKw hD
  obtain ⟨a, vs, ns, rfl, rfl, hobj, hints, hlen⟩ := script_of hn hpre hwl
  refine enter_call (codeAny_mono (call w s₀ s₁ mg mb fa o pm cd doc a vs ns G Y ho (fd_plain hd) hcd hmg hobj hints hlen hg) fun r s' hq => ?_)
  obtain ⟨rfl, h2, h3, h4⟩ := hq
  exact ⟨.inl ⟨.bool true, .bool true, [], rfl, fun _ => rfl, .bool true, post_true l _, fun _ => ⟨List.Pairwise.nil, fun _ hm => (nomatch hm)⟩⟩, h2, h3, h4⟩
section
variable {prog : Program} {w : World} {A : Around} {E : Value → Shared → Prop} {s : Shared} {K : Frag}
end
end Att
namespace L2
open PySem PySem.Spec PyProof.Rows
theorem vals_ints : ∀ {vs : List Value} {ns : List Int}, IntsAre vs ns → Vals (ns.map V.int) vs
  | _, _, .nil => .nil
  | _, _, .cons n t h => .cons ⟨t, rfl⟩ (vals_ints h)
end L2
namespace L2
open PySem PySem.Spec PyProof.Rows
end L2
namespace L2
open PySem PySem.Spec PyProof.Rows
noncomputable def defArgs (s : Stmt) : Arguments := match s with
  | .FunctionDef _ a _ _ _ _ _ _ _ _ => a
  | _ => { posonlyargs := [], args := [], vararg := none, kwonlyargs := [], kw_defaults := [], kwarg := none, defaults := [] }
noncomputable def defBody (s : Stmt) : List Stmt := match s with
  | .FunctionDef _ _ b _ _ _ _ _ _ _ => b
  | _ => []
noncomputable def defScope (s : Stmt) : Scope := match s with
  | .FunctionDef _ _ _ _ _ _ sc _ _ _ => sc
  | _ => { kind := .function, names := [], isGenerator := false, isCoroutine := false }
noncomputable abbrev CX0 : CXT := fun _ _ _ _ _ _ => False
noncomputable abbrev E0 : XK := fun _ _ _ => False
theorem pass0 {X : Cx} : Passes CX0 X E0 := fun _ _ _ _ _ _ _ h => h.elim
structure Fun (K : PySem.W.Frag) (x qual : Str) (st : Stmt) (f : Addr) (fd : FuncData) : Prop where
  ex : ∃ (oc : Value) (od : Option Addr) (kV doc pm : Value) (an : Option Addr) (cdv ct : Value) (osl : Array (Option Value)),
    fd = PySem.W.fnOf x qual (defArgs st) (defBody st) (defScope st) .none kV doc pm an cdv ct ∧ K.lookup f = some ⟨oc, od, .func fd, osl⟩ ∧ PySem.W.codeIn K cdv qual = true
  kp : PySem.W.keepIn K (.ref f) = true
section
variable {P : Program} {w : World} {K : PySem.W.Frag} {mg : Str → Option Value} {base : Heap}
theorem Fun.ok {x qual : Str} {st : Stmt} {f : Addr} {fd : FuncData} {N ps : List Str} {k : Nat} {sp : Sp} (F : Fun K x qual st f fd) (S : FnScope N ps (defScope st)) (len : ∀ vs H Q E, sp vs H Q E → vs.length = ps.length)
    (hbody : ∀ (cdv : Value) (A : Around) (outer : List Env) (s : Shared) (H : Hp) (vs : List V) (Q : VK) (E : XK), Room k (A.deeper (envOfC qual (defScope st) s.heap.objs.size f cdv)) → sp vs H Q E →
      ∃ t, PSs (cxOf CX0 P w K mg base N qual (defScope st) f cdv A outer s H E).nox (defBody st) t ∧ t { nx := fun _ H' => Q .non H', rt := Q } (start N vs) H) : FnOk P w K mg base CX0 (k + 1) f fd ps sp := by
  obtain ⟨oc, od, kV, doc, pm, an, cdv, ct, osl, rfl, lk, hcd⟩ := F.ex
  refine fn_of lk hcd S len fun A outer s H vs Q E hr hsp => ?_
  obtain ⟨t, h, q⟩ := hbody cdv A outer s H vs Q E hr hsp
  exact ⟨t, h.nox, q⟩
theorem Fun.binds {x qual : Str} {st : Stmt} {f : Addr} {fd : FuncData} {ps : List Str} (F : Fun K x qual st f fd)
    (h : ∀ (kV doc pm : Value) (an : Option Addr) (cdv ct : Value) (us : List Value), us.length = ps.length → bindArgs (PySem.W.fnOf x qual (defArgs st) (defBody st) (defScope st) .none kV doc pm an cdv ct) ⟨us, []⟩ = pure (ps.zip us)) : Binds K fd ps [] := by
  obtain ⟨oc, od, kV, doc, pm, an, cdv, ct, osl, rfl, lk, hcd⟩ := F.ex
  exact .all (h kV doc pm an cdv ct)
theorem fun_mk {x qual : Str} {st : Stmt} {f : Addr} {oc : Value} {od an : Option Addr} {osl : Array (Option Value)} {kV doc pm cdv ct : Value} (l : K.lookup f = some ⟨oc, od, .func (PySem.W.fnOf x qual (defArgs st) (defBody st) (defScope st) .none kV doc pm an cdv ct), osl⟩)
    (c : PySem.W.codeIn K cdv qual = true) (k : PySem.W.keepIn K (.ref f) = true) : Fun K x qual st f (PySem.W.fnOf x qual (defArgs st) (defBody st) (defScope st) .none kV doc pm an cdv ct) := ⟨⟨oc, od, kV, doc, pm, an, cdv, ct, osl, rfl, l, c⟩, k⟩
end
section
variable {X : Cx}
end
theorem iteF {A B : Prop} (h : B) : if false = true then A else B := by
  rw [if_neg Bool.false_ne_true]
  exact h
theorem iteT {A B : Prop} (h : A) : if true = true then A else B := by
  rw [if_pos rfl]
  exact h
noncomputable def Same (H H' : Hp) : Prop := ∀ b o, H b = some o → H' b = some o
theorem Same.refl (H : Hp) : Same H H := fun _ _ h => h
theorem Same.trans {H H1 H2 : Hp} (a : Same H H1) (b : Same H1 H2) : Same H H2 := fun c o h => b c o (a c o h)
theorem Same.free {H H' : Hp} (e : Same H H') {l : Addr} (h : H' l = Option.none) : H l = Option.none := by
  cases q : H l with
  | none => rfl
  | some o =>
    rw [e l o q] at h
    cases h
theorem Same.seq {K : PySem.W.Frag} {H H' : Hp} {a : Addr} {xs : List V} (e : Same H H') (h : SqL K H a xs) : SqL K H' a xs := by
  rcases h with (h | ⟨o, h⟩) | h
  · exact .inl (.inl (e _ _ h))
  · exact .inl (.inr ⟨o, e _ _ h⟩)
  · exact .inr h
end L2
namespace L2
open PySem PySem.Spec PyProof.Rows
section
variable {κ : Type} [DecidableEq κ]
noncomputable def valV (kvs : List (κ × V)) (k : κ) : Option V := (kvs.find? fun kv => decide (kv.1 = k)).map (·.2)
noncomputable def putK (kvs : List (κ × V)) (k : κ) (v : V) : List (κ × V) :=
  if (kvs.any fun kv => decide (kv.1 = k)) = true then kvs.map (fun kv => if kv.1 = k then (kv.1, v) else kv) else kvs ++ [(k, v)]
noncomputable def dropK (kvs : List (κ × V)) (k : κ) : List (κ × V) := kvs.filter fun kv => decide (kv.1 ≠ k)
theorem valV_pos {p : κ × V} {r : List (κ × V)} {k : κ} (e : p.1 = k) : valV (p :: r) k = some p.2 := by simp [valV, List.find?_cons, e]
theorem valV_neg {p : κ × V} {r : List (κ × V)} {k : κ} (e : ¬ p.1 = k) : valV (p :: r) k = valV r k := by simp [valV, List.find?_cons, e]
theorem RelO.getD {o : Option V} {u : Option Value} {d : V} {d' : Value} (r : RelO o u) (rd : RelV d d') : RelV (o.getD d) (u.getD d') := by
  cases o with
  | none => cases u with
    | none => exact rd
    | some _ => exact (show False from r).elim
  | some _ => cases u with
    | none => exact (show False from r).elim
    | some _ => exact r
theorem KV.val {kvs : List (κ × V)} {vs : List (κ × Value)} (r : KV kvs vs) (k : κ) : RelO (valV kvs k) (valueAt vs k) := by
  unfold KV at r
  induction r with
  | nil => exact True.intro
  | @cons p q ps qs h t ih =>
    obtain ⟨h1, h2⟩ := h
    by_cases e : p.1 = k
    · have e' : q.1 = k := h1.symm.trans e
      have b : valueAt (q :: qs) k = some q.2 := by simp [valueAt, List.find?_cons, e']
      rw [valV_pos e, b]; exact h2
    · have e' : ¬ q.1 = k := fun z => e (h1.trans z)
      have b : valueAt (q :: qs) k = valueAt qs k := by simp [valueAt, List.find?_cons, e']
      rw [valV_neg e, b]; exact ih
theorem KV.any {kvs : List (κ × V)} {vs : List (κ × Value)} (r : KV kvs vs) (k : κ) : (kvs.any fun kv => decide (kv.1 = k)) = vs.any fun kv => decide (kv.1 = k) := by
  unfold KV at r
  induction r with
  | nil => rfl
  | cons h t ih => rw [List.any_cons, List.any_cons, ih, h.1]
theorem KV.drop {kvs : List (κ × V)} {vs : List (κ × Value)} (r : KV kvs vs) (k : κ) : KV (dropK kvs k) (without vs k) := by
  unfold KV at r ⊢
  unfold dropK without
  induction r with
  | nil => exact .nil
  | @cons p q ps qs h t ih =>
    obtain ⟨h1, h2⟩ := h
    rw [List.filter_cons, List.filter_cons]
    by_cases e : p.1 = k
    · have a : ¬ decide (p.1 ≠ k) = true := by simp [e]
      have b : ¬ decide (q.1 ≠ k) = true := by simp [h1.symm.trans e]
      rw [if_neg a, if_neg b]; exact ih
    · have e' : ¬ q.1 = k := fun z => e (h1.trans z)
      have a : decide (p.1 ≠ k) = true := by simp [e]
      have b : decide (q.1 ≠ k) = true := by simp [e']
      rw [if_pos a, if_pos b]; exact .cons ⟨h1, h2⟩ ih
theorem KV.length {kvs : List (κ × V)} {vs : List (κ × Value)} (r : KV kvs vs) : kvs.length = vs.length := Paired.length r
end
noncomputable abbrev KT (H : Hp) : List (List Key × V) → List (List Key × Addr × Value) → Prop := Paired fun p q => p.1 = q.1 ∧ H q.2.1 = some (.tup (p.1.map kV)) ∧ RelV p.2 q.2.2
theorem KT.val {H : Hp} {kvs : List (List Key × V)} {xs : List (List Key × Addr × Value)} (r : KT H kvs xs) (k : List Key) : RelO (valV kvs k) ((atKey xs k).map (·.2)) := by
  induction r with
  | nil => exact True.intro
  | @cons p q ps qs h t ih =>
    obtain ⟨h1, _, h2⟩ := h
    by_cases e : p.1 = k
    · have e' : q.1 = k := h1.symm.trans e
      have b : atKey (q :: qs) k = some q.2 := by simp [atKey, List.find?_cons, e']
      rw [valV_pos e, b]; exact h2
    · have e' : ¬ q.1 = k := fun z => e (h1.trans z)
      have b : atKey (q :: qs) k = atKey qs k := by simp [atKey, List.find?_cons, e']
      rw [valV_neg e, b]; exact ih
theorem KT.keeps {H H' : Hp} {kvs : List (List Key × V)} {xs : List (List Key × Addr × Value)} (r : KT H kvs xs) (ht : ∀ b ys, H b = some (.tup ys) → H' b = some (.tup ys)) : KT H' kvs xs :=
  Paired.mapP r fun _ _ z => ⟨z.1, ht _ _ z.2.1, z.2.2⟩
section
variable {P : Program} {w : World} {H : Hp} {h : Heap} {a : Addr}
end
noncomputable def DGet (H : Hp) (a : Addr) (y : V) (r : Option V) : Prop :=
  (∃ kvs k, Rd H a (.dK kvs) ∧ y = kV k ∧ r = valV kvs k) ∨ ∃ kvs k b, Rd H a (.dT kvs) ∧ y = .ref b ∧ H b = some (.tup (k.map kV)) ∧ r = valV kvs k
noncomputable def DPut (H : Hp) (a : Addr) (y v : V) (H' : Hp) : Prop :=
  (∃ kvs k, H a = some (.dK kvs) ∧ y = kV k ∧ kvs.length < sizeLine ∧ H' = upd H a (.dK (putK kvs k v))) ∨
  ∃ kvs k b, H a = some (.dT kvs) ∧ y = .ref b ∧ H b = some (.tup (k.map kV)) ∧ kvs.length < sizeLine ∧ H' = upd H a (.dT (putK kvs k v))
theorem DGet.k {H : Hp} {a : Addr} {kvs : List (Key × V)} {k : Key} (e : H a = some (.dK kvs)) : DGet H a (kV k) (valV kvs k) := .inl ⟨kvs, k, .inl e, rfl, rfl⟩
theorem DGet.t {H : Hp} {a b : Addr} {kvs : List (List Key × V)} {k : List Key} (e : H a = some (.dT kvs)) (eb : H b = some (.tup (k.map kV))) : DGet H a (.ref b) (valV kvs k) := .inr ⟨kvs, k, b, .inl e, rfl, eb, rfl⟩
theorem DPut.k {H : Hp} {a : Addr} {kvs : List (Key × V)} {k : Key} {v : V} (e : H a = some (.dK kvs)) (hl : kvs.length < sizeLine) : DPut H a (kV k) v (upd H a (.dK (putK kvs k v))) := .inl ⟨kvs, k, e, rfl, hl, rfl⟩
theorem DPut.t {H : Hp} {a b : Addr} {kvs : List (List Key × V)} {k : List Key} {v : V} (e : H a = some (.dT kvs)) (eb : H b = some (.tup (k.map kV))) (hl : kvs.length < sizeLine) :
    DPut H a (.ref b) v (upd H a (.dT (putK kvs k v))) := .inr ⟨kvs, k, b, e, rfl, eb, hl, rfl⟩
section
variable {X : Cx} {pins : List (Addr × Obj)} {σ : St} {H : Hp} {s : Shared} {a : Addr} {y v : V} {u r : Value} {o : Option V} {A : Around} {E : Value → Shared → Prop}
theorem Inv.big (I : Inv X pins σ H s) : sysModules < s.heap.objs.size := by
  have h : mainGlobals < s.heap.objs.size := (I.mod.glob.keeps I.bk).lt
  exact Nat.lt_trans (by decide) h
end
section
variable {X : Cx} {pins : List (Addr × Obj)} {σ : St} {H : Hp} {s : Shared} {a : Addr} {kvs : List (Key × V)} {k : Key} {u : Value} {A : Around} {E : Value → Shared → Prop}
end
section
variable {X : Cx} {o i e value : Expr} {pos pos' tpos : Pos} {td ty tv : TE}
end
section
variable {X : Cx} {pos : Pos}
end
section
variable {X : Cx} {pins : List (Addr × Obj)} {σ : St} {H : Hp} {s : Shared} {a : Addr} {y d : V} {u r : Value} {o : Option V} {A : Around} {E : Value → Shared → Prop}
end
section
variable {X : Cx} {o e f : Expr} {apos cpos : Pos} {td ty tx : TE}
end
section
variable {X : Cx} {pins : List (Addr × Obj)} {σ : St} {H : Hp} {s : Shared} {a : Addr} {kvs : List (Key × V)} {A : Around} {E : Value → Shared → Prop}
end
section
variable {X : Cx} {pins : List (Addr × Obj)} {σ : St} {H : Hp} {s : Shared} {a : Addr} {y : V} {u : Value} {A : Around} {E : Value → Shared → Prop}
end
end L2
namespace L2
open PySem PySem.Spec PyProof.Rows
section
variable {X : Cx}
end
section
variable {κ : Type} [DecidableEq κ]
end
end L2
namespace L3
noncomputable abbrev St := L2.St
open PySem PySem.Spec PyProof.Rows L2
inductive D where
  | non | bl (b : Bool) | int (i : Int) | str (x : Str) | tup (xs : List D) | ref (n : Nat) | fn (a : Addr)
structure LamG where
  qual : Str
  params : Arguments
  body : Expr
  scope : Scope
inductive Ob where
  | lst (xs : List D) | flst (xs : List D) | iset (f : Int → Bool) (n : Nat) | dct (kvs : List (Key × D)) | fdct (kvs : List (Key × D)) | tdct (kvs : List (List Key × D)) | ftdct (kvs : List (List Key × D)) | tset (ks : List (List Int)) | fnc (x : Str) | exc (c : Str) | tab (x : Str) | lam (g : LamG) (caps : List (Str × D)) | dead
noncomputable def Ob.mut : Ob → Bool
  | .flst _ => false
  | .fnc _ => false
  | .lam _ _ => false
  | .dead => false
  | _ => true
noncomputable abbrev Sto := List Ob
noncomputable abbrev Lo := List (Option D)
mutual
inductive RD (ρ : List Addr) (H : Hp) : D → V → Prop where
  | non : RD ρ H .non .non
  | bl (b : Bool) : RD ρ H (.bl b) (.bl b)
  | int (i : Int) : RD ρ H (.int i) (.int i)
  | str (x : Str) : RD ρ H (.str x) (.str x)
  | tup {xs : List D} {a : Addr} {vs : List V} : H a = some (.tup vs) → RDs ρ H xs vs → RD ρ H (.tup xs) (.ref a)
  | ref {n : Nat} {a : Addr} : ρ[n]? = some a → RD ρ H (.ref n) (.ref a)
  | fn (a : Addr) : RD ρ H (.fn a) (.ref a)
inductive RDs (ρ : List Addr) (H : Hp) : List D → List V → Prop where
  | nil : RDs ρ H [] []
  | cons {x : D} {v : V} {xs : List D} {vs : List V} : RD ρ H x v → RDs ρ H xs vs → RDs ρ H (x :: xs) (v :: vs)
end
structure Ext0 (ρ : List Addr) (H : Hp) (ρ' : List Addr) (H' : Hp) : Prop where
  pre : ∀ (n : Nat) (a : Addr), ρ[n]? = some a → ρ'[n]? = some a
  tup : ∀ a vs, H a = some (.tup vs) → H' a = some (.tup vs)
  frz : ∀ a o u, H a = some (.frz o u) → H' a = some (.frz o u)
structure Ext (ρ : List Addr) (H : Hp) (ρ' : List Addr) (H' : Hp) : Prop extends Ext0 ρ H ρ' H' where
  out : ∀ a (vs : HO), H a = some vs → (∀ n : Nat, ρ[n]? ≠ some a) → H' a = some vs ∧ ∀ n : Nat, ρ'[n]? ≠ some a
theorem Ext.refl (ρ : List Addr) (H : Hp) : Ext ρ H ρ H := ⟨⟨fun _ _ h => h, fun _ _ h => h, fun _ _ _ h => h⟩, fun _ _ h n => ⟨h, n⟩⟩
theorem Ext.trans {ρ ρ1 ρ2 : List Addr} {H H1 H2 : Hp} (a : Ext ρ H ρ1 H1) (b : Ext ρ1 H1 ρ2 H2) : Ext ρ H ρ2 H2 :=
  ⟨⟨fun n x h => b.pre n x (a.pre n x h), fun n x h => b.tup n x (a.tup n x h), fun n o x h => b.frz n o x (a.frz n o x h)⟩, fun x vs h n => let ⟨h1, n1⟩ := a.out x vs h n; b.out x vs h1 n1⟩
section
variable {ρ ρ' : List Addr} {H H' : Hp}
mutual
theorem RD.mono0 (e : Ext0 ρ H ρ' H') : ∀ {d : D} {v : V}, RD ρ H d v → RD ρ' H' d v
  | _, _, .non => .non
  | _, _, .bl b => .bl b
  | _, _, .int i => .int i
  | _, _, .str x => .str x
  | _, _, .tup h r => .tup (e.tup _ _ h) (RDs.mono0 e r)
  | _, _, .ref h => .ref (e.pre _ _ h)
  | _, _, .fn a => .fn a
theorem RDs.mono0 (e : Ext0 ρ H ρ' H') : ∀ {d : List D} {v : List V}, RDs ρ H d v → RDs ρ' H' d v
  | _, _, .nil => .nil
  | _, _, .cons r q => .cons (RD.mono0 e r) (RDs.mono0 e q)
end
theorem RD.mono {d : D} {v : V} (r : RD ρ H d v) (e : Ext ρ H ρ' H') : RD ρ' H' d v := r.mono0 e.toExt0
theorem RDs.mono {d : List D} {v : List V} (r : RDs ρ H d v) (e : Ext ρ H ρ' H') : RDs ρ' H' d v := r.mono0 e.toExt0
theorem RDs.length : ∀ {d : List D} {v : List V}, RDs ρ H d v → d.length = v.length
  | _, _, .nil => rfl
  | _, _, .cons _ q => congrArg (· + 1) (RDs.length q)
theorem RDs.get : ∀ {d : List D} {v : List V} {i : Nat} {x : D}, RDs ρ H d v → d[i]? = some x → ∃ u, v[i]? = some u ∧ RD ρ H x u
  | _, _, _, _, .nil, e => by simp at e
  | _, _, 0, _, .cons r _, e => by simp at e; subst e; exact ⟨_, rfl, r⟩
  | _, _, i + 1, x, .cons _ q, e => by
    obtain ⟨u, h1, h2⟩ := RDs.get (i := i) (x := x) q (by simpa using e)
    exact ⟨u, by simpa using h1, h2⟩
theorem RDs.set {x : D} {u : V} (r : RD ρ H x u) : ∀ {d : List D} {v : List V} (i : Nat), RDs ρ H d v → RDs ρ H (d.set i x) (v.set i u)
  | _, _, _, .nil => .nil
  | _, _, 0, .cons _ q => .cons r q
  | _, _, i + 1, .cons p q => .cons p (RDs.set r i q)
theorem RDs.append : ∀ {d e : List D} {v w : List V}, RDs ρ H d v → RDs ρ H e w → RDs ρ H (d ++ e) (v ++ w)
  | _, _, _, _, .nil, q => q
  | _, _, _, _, .cons r p, q => .cons r (RDs.append p q)
theorem RDs.take : ∀ {d : List D} {v : List V} (n : Nat), RDs ρ H d v → RDs ρ H (d.take n) (v.take n)
  | _, _, 0, _ => .nil
  | _, _, _ + 1, .nil => .nil
  | _, _, n + 1, .cons r t => .cons r (RDs.take n t)
theorem RDs.drop : ∀ {d : List D} {v : List V} (n : Nat), RDs ρ H d v → RDs ρ H (d.drop n) (v.drop n)
  | _, _, 0, r => r
  | _, _, _ + 1, .nil => .nil
  | _, _, n + 1, .cons _ t => RDs.drop n t
theorem RDs.rep {xs : List D} {us : List V} (h : RDs ρ H xs us) : ∀ k : Nat, RDs ρ H (List.replicate k xs).flatten (List.replicate k us).flatten
  | 0 => .nil
  | k + 1 => by
    rw [List.replicate_succ, List.replicate_succ, List.flatten_cons, List.flatten_cons]
    exact RDs.append h (RDs.rep h k)
theorem RDs.one {x : D} {vs : List V} (h : RDs ρ H [x] vs) : ∃ v, vs = [v] ∧ RD ρ H x v := by
  cases h with
  | cons r q => cases q; exact ⟨_, rfl, r⟩
theorem RDs.two {x y : D} {vs : List V} (h : RDs ρ H [x, y] vs) : ∃ v u, vs = [v, u] ∧ RD ρ H x v ∧ RD ρ H y u := by
  cases h with
  | cons r q => obtain ⟨u, rfl, r2⟩ := q.one; exact ⟨_, _, rfl, r, r2⟩
end
noncomputable def Fz (K : PySem.W.Frag) (H : Hp) (a : Addr) (xs : List V) : Prop := (∃ o, H a = some (.frz o (.lst xs))) ∨
    ∃ (o : Obj) (its : Array Value) (n : Nat), K.lookup a = some o ∧ o.cls = .type "list" ∧ o.dict = none ∧ o.data = .seq its n ∧ its.size ≤ sizeLine ∧ Vals xs its.toList
theorem Fz.sq {K : PySem.W.Frag} {H : Hp} {a : Addr} {xs : List V} (h : Fz K H a xs) : SqL K H a xs := by
  rcases h with ⟨o, h⟩ | h
  · exact .inl (.inr ⟨o, h⟩)
  · exact .inr h
noncomputable def lamQ (x : Str) : Str := x ++ ".<locals>." ++ "<lambda>"
noncomputable abbrev hTr : HO := .ext fun _ => True
noncomputable def CodeF (H : Hp) (q : Str) (c : Addr) : Prop := ∃ oc vs t, H c = some (.frz oc hTr) ∧ oc.data = .fields vs ∧ vs[1]? = some (.str q t)
noncomputable def TabOk (H : Hp) (q : Str) (ps : Array Value) : Prop := TriplesOk ps.toList ∧ ∀ pos cv, codeAmong pos ps.toList = some cv → ∃ c, cv = .ref c ∧ CodeF H q c
inductive CellsR (ρ : List Addr) (H : Hp) : List (Str × Addr) → List (Str × D) → Prop where
  | nil : CellsR ρ H [] []
  | cons {x : Str} {c : Addr} {o : Obj} {u : Value} {v : V} {d : D} {cs : List (Str × Addr)} {ds : List (Str × D)} : H c = some (.frz o hTr) → o.data = .cell (some u) → RelV v u → RD ρ H d v → CellsR ρ H cs ds → CellsR ρ H ((x, c) :: cs) ((x, d) :: ds)
theorem CodeF.mono {H H' : Hp} {q : Str} {c : Addr} (h : CodeF H q c) (e : ∀ a o u, H a = some (.frz o u) → H' a = some (.frz o u)) : CodeF H' q c :=
  let ⟨oc, vs, t, h1, h2⟩ := h; ⟨oc, vs, t, e _ _ _ h1, h2⟩
theorem TabOk.mono {H H' : Hp} {q : Str} {ps : Array Value} (h : TabOk H q ps) (e : ∀ a o u, H a = some (.frz o u) → H' a = some (.frz o u)) : TabOk H' q ps :=
  ⟨h.1, fun pos cv z => let ⟨c, e1, k⟩ := h.2 pos cv z; ⟨c, e1, k.mono e⟩⟩
theorem CellsR.mono {ρ ρ' : List Addr} {H H' : Hp} (e : Ext0 ρ H ρ' H') {cs : List (Str × Addr)} {ds : List (Str × D)} (h : CellsR ρ H cs ds) : CellsR ρ' H' cs ds := by
  induction h with
  | nil => exact .nil
  | cons h1 h2 h3 h4 _ ih => exact .cons (e.frz _ _ _ h1) h2 h3 (h4.mono0 e) ih
noncomputable def ObR (K : PySem.W.Frag) (ρ : List Addr) (H : Hp) : Ob → Addr → Prop
  | .lst xs, a => ∃ vs, H a = some (.lst vs) ∧ RDs ρ H xs vs
  | .flst xs, a => ∃ vs, Fz K H a vs ∧ RDs ρ H xs vs
  | .iset f n, a => H a = some (.set f n)
  | .dct kvs, a => ∃ vs, H a = some (.dK ((kvs.map (·.1)).zip vs)) ∧ RDs ρ H (kvs.map (·.2)) vs
  | .fdct kvs, a => ∃ o vs, H a = some (.frz o (.dK ((kvs.map (·.1)).zip vs))) ∧ RDs ρ H (kvs.map (·.2)) vs
  | .tdct kvs, a => ∃ vs, H a = some (.dT ((kvs.map (·.1)).zip vs)) ∧ RDs ρ H (kvs.map (·.2)) vs
  | .ftdct kvs, a => ∃ o vs, H a = some (.frz o (.dT ((kvs.map (·.1)).zip vs))) ∧ RDs ρ H (kvs.map (·.2)) vs
  | .tset ks, a => ∃ xs : List (List Int × Addr), ks = xs.map (·.1) ∧ H a = some (.ext (TS.TSet a xs)) ∧ ∀ p ∈ xs, H p.2 = some (.tup (p.1.map V.int))
  | .fnc x, a => PySem.W.nsIn K mainGlobals x = some (some (.ref a)) ∧ ∃ o, K.lookup a = some o
  | .exc c, a => ∃ C, PySem.W.nsIn K mainGlobals c = some (some (.ref C)) ∧ H a = some (.ext (fun h => ∃ o, h.get? a = some o ∧ o.cls = .ref C))
  | .tab x, a => ∃ c ps, PySem.W.tabIn K x = some (c, a) ∧ PySem.W.codeHdIn K c a = true ∧ H a = some (.tbl ps) ∧ TabOk H (lamQ x) ps
  | .lam g caps, a => ∃ cs pm c ctv, H a = some (.frz (PySem.W.kla_obj "<lambda>" g.qual g.params g.body g.scope cs pm c ctv) hTr) ∧ CodeF H g.qual c ∧ CellsR ρ H cs caps
  | .dead, a => ∃ u, H a = some u
structure Sim (K : PySem.W.Frag) (ρ : List Addr) (S : Sto) (H : Hp) : Prop where
  len : ρ.length = S.length
  nd : ∀ (i j : Nat) (a : Addr) (o1 o2 : Ob), ρ[i]? = some a → ρ[j]? = some a → S[i]? = some o1 → S[j]? = some o2 → o1.mut = true → o2.mut = true → i = j
  at' : ∀ (n : Nat) (a : Addr) (o : Ob), ρ[n]? = some a → S[n]? = some o → ObR K ρ H o a
section
variable {K : PySem.W.Frag} {ρ ρ' : List Addr} {H : Hp} {S : Sto}
theorem ext_new {p : Addr} {o : HO} (hp : H p = none) : Ext ρ H ρ (upd H p o) :=
  ⟨⟨fun _ _ h => h, fun a vs h => by rw [upd_ne (ne_of_none h hp)]; exact h, fun a o vs h => by rw [upd_ne (ne_of_none h hp)]; exact h⟩, fun a vs h n => ⟨by rw [upd_ne (ne_of_none h hp)]; exact h, n⟩⟩
theorem ext0_upd {p : Addr} {o : HO} {ys : List V} (hp : H p = some (.lst ys)) : Ext0 ρ H ρ (upd H p o) :=
  ⟨fun _ _ h => h, fun a vs h => by rw [upd_ne (ne_of h hp (by intro z; cases z))]; exact h, fun a o vs h => by rw [upd_ne (ne_of h hp (by intro z; cases z))]; exact h⟩
noncomputable def Plain (u : HO) : Prop := (∀ vs, u ≠ .tup vs) ∧ ∀ o v, u ≠ .frz o v
theorem plain_lst (ys : List V) : Plain (.lst ys) := ⟨fun _ z => (by cases z), fun _ _ z => (by cases z)⟩
theorem ext0_updG {p : Addr} {o u : HO} (hp : H p = some u) (hu : Plain u) : Ext0 ρ H ρ (upd H p o) :=
  ⟨fun _ _ h => h, fun a vs h => by rw [upd_ne (ne_of h hp (fun z => hu.1 vs z.symm))]; exact h, fun a o vs h => by rw [upd_ne (ne_of h hp (fun z => hu.2 o vs z.symm))]; exact h⟩
theorem ext_updG {p : Addr} {o u : HO} {n : Nat} (hn : ρ[n]? = some p) (hp : H p = some u) (hu : Plain u) : Ext ρ H ρ (upd H p o) :=
  ⟨ext0_updG hp hu, fun a vs h hm => ⟨by rw [upd_ne (fun z => hm n (by rw [z]; exact hn))]; exact h, hm⟩⟩
theorem ext_upd {p : Addr} {o : HO} {ys : List V} {n : Nat} (hn : ρ[n]? = some p) (hp : H p = some (.lst ys)) : Ext ρ H ρ (upd H p o) :=
  ⟨ext0_upd hp, fun a vs h hm => ⟨by rw [upd_ne (fun z => hm n (by rw [z]; exact hn))]; exact h, hm⟩⟩
theorem ObR.laid {o : Ob} {a p : Addr} {u : HO} (h : ObR K ρ H o a) (hp : H p = none) : ObR K ρ (upd H p u) o a := by
  cases o with
  | lst xs =>
    obtain ⟨vs, e, r⟩ := h
    exact ⟨vs, by rw [upd_ne (ne_of_none e hp)]; exact e, r.mono (ext_new hp)⟩
  | flst xs =>
    obtain ⟨vs, e, r⟩ := h
    refine ⟨vs, ?_, r.mono (ext_new hp)⟩
    rcases e with ⟨o, e⟩ | e
    · exact .inl ⟨o, by rw [upd_ne (ne_of_none e hp)]; exact e⟩
    · exact .inr e
  | iset f n =>
    show upd H p u a = some (.set f n)
    have e : H a = some (.set f n) := h
    rw [upd_ne (ne_of_none e hp)]; exact e
  | dct kvs =>
    obtain ⟨vs, e, r⟩ := h
    exact ⟨vs, by rw [upd_ne (ne_of_none e hp)]; exact e, r.mono (ext_new hp)⟩
  | fdct kvs =>
    obtain ⟨o, vs, e, r⟩ := h
    exact ⟨o, vs, by rw [upd_ne (ne_of_none e hp)]; exact e, r.mono (ext_new hp)⟩
  | tdct kvs =>
    obtain ⟨vs, e, r⟩ := h
    exact ⟨vs, by rw [upd_ne (ne_of_none e hp)]; exact e, r.mono (ext_new hp)⟩
  | ftdct kvs =>
    obtain ⟨o, vs, e, r⟩ := h
    exact ⟨o, vs, by rw [upd_ne (ne_of_none e hp)]; exact e, r.mono (ext_new hp)⟩
  | tset ks =>
    obtain ⟨xs, e0, e, r⟩ := h
    exact ⟨xs, e0, by rw [upd_ne (ne_of_none e hp)]; exact e, fun p hq => by rw [upd_ne (ne_of_none (r p hq) hp)]; exact r p hq⟩
  | fnc x => exact h
  | exc c =>
    obtain ⟨C, hc, e⟩ := h
    exact ⟨C, hc, by rw [upd_ne (ne_of_none e hp)]; exact e⟩
  | tab x =>
    obtain ⟨c, ps, h1, h2, e, t⟩ := h
    exact ⟨c, ps, h1, h2, by rw [upd_ne (ne_of_none e hp)]; exact e, t.mono (ext_new (ρ := ρ) hp).frz⟩
  | lam g caps =>
    obtain ⟨cs, pm, c, ctv, e, k, r⟩ := h
    exact ⟨cs, pm, c, ctv, (ext_new (ρ := ρ) hp).frz _ _ _ e, k.mono (ext_new (ρ := ρ) hp).frz, r.mono (ext_new hp).toExt0⟩
  | dead =>
    obtain ⟨v, e⟩ := h
    exact ⟨v, by rw [upd_ne (ne_of_none e hp)]; exact e⟩
theorem ObR.writtenG {o : Ob} {a p : Addr} {u u0 : HO} (h : ObR K ρ H o a) (hp : H p = some u0) (hu : Plain u0) (hn : o.mut = true → a ≠ p) : ObR K ρ (upd H p u) o a := by
  cases o with
  | lst xs =>
    obtain ⟨vs, e, r⟩ := h
    exact ⟨vs, by rw [upd_ne (hn rfl)]; exact e, r.mono0 (ext0_updG hp hu)⟩
  | flst xs =>
    obtain ⟨vs, e, r⟩ := h
    refine ⟨vs, ?_, r.mono0 (ext0_updG hp hu)⟩
    rcases e with ⟨o, e⟩ | e
    · exact .inl ⟨o, by rw [upd_ne (ne_of e hp (fun z => hu.2 _ _ z.symm))]; exact e⟩
    · exact .inr e
  | iset f n =>
    show upd H p u a = some (.set f n)
    rw [upd_ne (hn rfl)]; exact h
  | dct kvs =>
    obtain ⟨vs, e, r⟩ := h
    exact ⟨vs, by rw [upd_ne (hn rfl)]; exact e, r.mono0 (ext0_updG hp hu)⟩
  | tdct kvs =>
    obtain ⟨vs, e, r⟩ := h
    exact ⟨vs, by rw [upd_ne (hn rfl)]; exact e, r.mono0 (ext0_updG hp hu)⟩
  | fdct kvs =>
    obtain ⟨o, vs, e, r⟩ := h
    exact ⟨o, vs, by rw [upd_ne (hn rfl)]; exact e, r.mono0 (ext0_updG hp hu)⟩
  | ftdct kvs =>
    obtain ⟨o, vs, e, r⟩ := h
    exact ⟨o, vs, by rw [upd_ne (hn rfl)]; exact e, r.mono0 (ext0_updG hp hu)⟩
  | tset ks =>
    obtain ⟨xs, e0, e, r⟩ := h
    exact ⟨xs, e0, by rw [upd_ne (hn rfl)]; exact e, fun p hq => (ext0_updG (ρ := ρ) hp hu).tup _ _ (r p hq)⟩
  | fnc x => exact h
  | exc c =>
    obtain ⟨C, hc, e⟩ := h
    exact ⟨C, hc, by rw [upd_ne (hn rfl)]; exact e⟩
  | tab x =>
    obtain ⟨c, ps, h1, h2, e, t⟩ := h
    exact ⟨c, ps, h1, h2, by rw [upd_ne (hn rfl)]; exact e, t.mono (ext0_updG (ρ := ρ) hp hu).frz⟩
  | lam g caps =>
    obtain ⟨cs, pm, c, ctv, e, k, r⟩ := h
    exact ⟨cs, pm, c, ctv, (ext0_updG (ρ := ρ) hp hu).frz _ _ _ e, k.mono (ext0_updG (ρ := ρ) hp hu).frz, r.mono (ext0_updG hp hu)⟩
  | dead =>
    obtain ⟨v, e⟩ := h
    by_cases hap : a = p
    · subst hap; exact ⟨u, upd_same⟩
    · exact ⟨v, by rw [upd_ne hap]; exact e⟩
theorem ObR.written {o : Ob} {a p : Addr} {u : HO} {ys : List V} (h : ObR K ρ H o a) (hp : H p = some (.lst ys)) (hn : o.mut = true → a ≠ p) : ObR K ρ (upd H p u) o a := h.writtenG hp (plain_lst ys) hn
theorem ObR.more {o : Ob} {a : Addr} (h : ObR K ρ H o a) (e : Ext0 ρ H ρ' H) : ObR K ρ' H o a := by
  cases o with
  | lst xs => obtain ⟨vs, e1, r⟩ := h; exact ⟨vs, e1, r.mono0 e⟩
  | flst xs => obtain ⟨vs, e1, r⟩ := h; exact ⟨vs, e1, r.mono0 e⟩
  | iset f n => exact h
  | dct kvs => obtain ⟨vs, e1, r⟩ := h; exact ⟨vs, e1, r.mono0 e⟩
  | tdct kvs => obtain ⟨vs, e1, r⟩ := h; exact ⟨vs, e1, r.mono0 e⟩
  | fdct kvs => obtain ⟨o, vs, e1, r⟩ := h; exact ⟨o, vs, e1, r.mono0 e⟩
  | ftdct kvs => obtain ⟨o, vs, e1, r⟩ := h; exact ⟨o, vs, e1, r.mono0 e⟩
  | tset ks => exact h
  | fnc x => exact h
  | exc c => exact h
  | tab x => exact h
  | lam g caps => obtain ⟨cs, pm, c, ctv, e1, k, r⟩ := h; exact ⟨cs, pm, c, ctv, e1, k, r.mono e⟩
  | dead => exact h
theorem Sim.laid (s : Sim K ρ S H) {p : Addr} {u : HO} (hp : H p = none) : Sim K ρ S (upd H p u) :=
  ⟨s.len, s.nd, fun n a o h1 h2 => (s.at' n a o h1 h2).laid hp⟩
theorem Sim.lst {n : Nat} {xs : List D} (s : Sim K ρ S H) (h : S[n]? = some (.lst xs)) : ∃ a vs, ρ[n]? = some a ∧ H a = some (.lst vs) ∧ RDs ρ H xs vs := by
  have hl : n < ρ.length := by rw [s.len]; exact (List.getElem?_eq_some_iff.mp h).1
  obtain ⟨vs, e, r⟩ := s.at' n _ _ (List.getElem?_eq_getElem hl) h
  exact ⟨_, vs, List.getElem?_eq_getElem hl, e, r⟩
noncomputable def lstOf (S : Sto) (n : Nat) : Option (List D) := match S[n]? with
  | some (.lst xs) => some xs
  | some (.flst xs) => some xs
  | _ => none
theorem Sim.lstOf {n : Nat} {xs : List D} (s : Sim K ρ S H) (h : L3.lstOf S n = some xs) : ∃ a vs, ρ[n]? = some a ∧ SqL K H a vs ∧ RDs ρ H xs vs := by
  unfold L3.lstOf at h
  cases e : S[n]? with
  | none => rw [e] at h; cases h
  | some o =>
    have hl : n < ρ.length := by rw [s.len]; exact (List.getElem?_eq_some_iff.mp e).1
    have q := s.at' n _ _ (List.getElem?_eq_getElem hl) e
    rw [e] at h
    cases o with
    | lst ys =>
      cases h
      obtain ⟨vs, e1, r⟩ := q
      exact ⟨_, vs, List.getElem?_eq_getElem hl, .inl (.inl e1), r⟩
    | flst ys =>
      cases h
      obtain ⟨vs, e1, r⟩ := q
      exact ⟨_, vs, List.getElem?_eq_getElem hl, e1.sq, r⟩
    | iset f n => cases h
    | dct kvs => cases h
    | fdct kvs => cases h
    | ftdct kvs => cases h
    | tset ks => cases h
    | fnc x => cases h
    | tdct kvs => cases h
    | exc c => cases h
    | tab x => cases h
    | lam g caps => cases h
    | dead => cases h
theorem Sim.setG {n : Nat} {a : Addr} {o0 o1 : Ob} {u0 u1 : HO} (s : Sim K ρ S H) (ha : ρ[n]? = some a) (hS : S[n]? = some o0) (hm0 : o0.mut = true) (hH : H a = some u0) (hu : Plain u0) (r : ObR K ρ (upd H a u1) o1 a) : Sim K ρ (S.set n o1) (upd H a u1) := by
  have hl : n < S.length := (List.getElem?_eq_some_iff.mp hS).1
  have key : ∀ (m : Nat) (w : Ob), w.mut = true → (S.set n o1)[m]? = some w → ∃ w', S[m]? = some w' ∧ w'.mut = true := fun m w hw h => by
    by_cases hmn : n = m
    · subst hmn; exact ⟨_, hS, hm0⟩
    · rw [List.getElem?_set_ne hmn] at h; exact ⟨_, h, hw⟩
  refine ⟨by rw [List.length_set]; exact s.len, fun i j b x1 x2 h1 h2 h3 h4 m1 m2 => ?_, fun m b o h1 h2 => ?_⟩
  · obtain ⟨_, h3, q3⟩ := key i x1 m1 h3
    obtain ⟨_, h4, q4⟩ := key j x2 m2 h4
    exact s.nd i j b _ _ h1 h2 h3 h4 q3 q4
  by_cases hmn : n = m
  · subst hmn
    rw [ha] at h1; cases h1
    rw [List.getElem?_set_self hl] at h2
    cases h2
    exact r
  · rw [List.getElem?_set_ne hmn] at h2
    exact (s.at' m b o h1 h2).writtenG hH hu (fun e z => hmn (s.nd n m a _ _ ha (by rw [h1, z]) hS h2 hm0 e))
theorem Sim.set {n : Nat} {a : Addr} {ys : List V} {xs zs : List D} {vs : List V} (s : Sim K ρ S H) (ha : ρ[n]? = some a) (hS : S[n]? = some (.lst zs)) (hH : H a = some (.lst ys)) (r : RDs ρ H xs vs) : Sim K ρ (S.set n (.lst xs)) (upd H a (.lst vs)) :=
  s.setG ha hS rfl hH (plain_lst ys) ⟨vs, upd_same, r.mono0 (ext0_upd hH)⟩
theorem ext0_push {a : Addr} : Ext0 ρ H (ρ ++ [a]) H :=
  ⟨fun n b h => by rw [List.getElem?_append_left (List.getElem?_eq_some_iff.mp h).1]; exact h, fun _ _ h => h, fun _ _ _ h => h⟩
theorem get_push {α : Type} {l : List α} {a b : α} {n : Nat} (h : (l ++ [a])[n]? = some b) : l[n]? = some b ∨ (n = l.length ∧ b = a) := by
  by_cases hl : n < l.length
  · rw [List.getElem?_append_left hl] at h; exact .inl h
  · rw [List.getElem?_append_right (by omega)] at h
    have : n - l.length = 0 := by
      have := (List.getElem?_eq_some_iff.mp h).1
      simp at this; omega
    rw [this] at h; simp at h
    exact .inr ⟨by omega, h.symm⟩
theorem ext_newl {a : Addr} {vs : List V} (ha : H a = none) : Ext ρ H (ρ ++ [a]) (upd H a (.lst vs)) :=
  ⟨⟨ext0_push.pre (H := H), fun b us h => by rw [upd_ne (ne_of_none h ha)]; exact h, fun b o us h => by rw [upd_ne (ne_of_none h ha)]; exact h⟩, fun b us h n => ⟨by rw [upd_ne (ne_of_none h ha)]; exact h, fun i hi => by
    rcases get_push hi with hi | ⟨_, e⟩
    · exact n i hi
    · rw [e, ha] at h; cases h⟩⟩
theorem ext_newG {a : Addr} {u : HO} (ha : H a = none) : Ext ρ H (ρ ++ [a]) (upd H a u) :=
  ⟨⟨ext0_push.pre (H := H), fun b us h => by rw [upd_ne (ne_of_none h ha)]; exact h, fun b o us h => by rw [upd_ne (ne_of_none h ha)]; exact h⟩, fun b us h n => ⟨by rw [upd_ne (ne_of_none h ha)]; exact h, fun i hi => by
    rcases get_push hi with hi | ⟨_, e⟩
    · exact n i hi
    · rw [e, ha] at h; cases h⟩⟩
theorem Sim.pushG {a : Addr} {o1 : Ob} {u : HO} (s : Sim K ρ S H) (ha : H a = none) (r : ObR K (ρ ++ [a]) (upd H a u) o1 a) : Sim K (ρ ++ [a]) (S ++ [o1]) (upd H a u) := by
  have no : ∀ (n : Nat) (o : Ob), o.mut = true → ρ[n]? = some a → S[n]? = some o → False := fun n o hm h1 h2 => by
    have q := s.at' n a _ h1 h2
    cases o with
    | lst xs => obtain ⟨vs, e, _⟩ := q; rw [ha] at e; cases e
    | flst xs => cases hm
    | iset f n => have q : H a = _ := q; rw [ha] at q; cases q
    | dct kvs => obtain ⟨vs, e, _⟩ := q; rw [ha] at e; cases e
    | tdct kvs => obtain ⟨vs, e, _⟩ := q; rw [ha] at e; cases e
    | fdct kvs => obtain ⟨o, vs, e, _⟩ := q; rw [ha] at e; cases e
    | ftdct kvs => obtain ⟨o, vs, e, _⟩ := q; rw [ha] at e; cases e
    | tset ks => obtain ⟨xs, _, e, _⟩ := q; rw [ha] at e; cases e
    | fnc x => cases hm
    | exc c => obtain ⟨C, _, e⟩ := q; rw [ha] at e; cases e
    | tab x => obtain ⟨_, _, _, _, e, _⟩ := q; rw [ha] at e; cases e
    | lam g caps => cases hm
    | dead => cases hm
  refine ⟨by simp [s.len], fun i j b x1 x2 h1 h2 h3 h4 m1 m2 => ?_, fun n b o h1 h2 => ?_⟩
  · rcases get_push h3 with h3 | ⟨e3, _⟩ <;> rcases get_push h4 with h4 | ⟨e4, _⟩
    · have l1 := (List.getElem?_eq_some_iff.mp h3).1
      have l2 := (List.getElem?_eq_some_iff.mp h4).1
      rcases get_push h1 with h1 | ⟨e1, f1⟩ <;> rcases get_push h2 with h2 | ⟨e2, f2⟩
      · exact s.nd i j b _ _ h1 h2 h3 h4 m1 m2
      · have := s.len; omega
      · have := s.len; omega
      · have := s.len; omega
    · have l1 := (List.getElem?_eq_some_iff.mp h3).1
      rcases get_push h2 with h2 | ⟨e2, f2⟩
      · have := (List.getElem?_eq_some_iff.mp h2).1; have := s.len; omega
      · subst f2
        rcases get_push h1 with h1 | ⟨e1, _⟩
        · exact (no i _ m1 h1 h3).elim
        · have := s.len; omega
    · have l1 := (List.getElem?_eq_some_iff.mp h4).1
      rcases get_push h1 with h1 | ⟨e2, f2⟩
      · have := (List.getElem?_eq_some_iff.mp h1).1; have := s.len; omega
      · subst f2
        rcases get_push h2 with h2 | ⟨e1, _⟩
        · exact (no j _ m2 h2 h4).elim
        · have := s.len; omega
    · omega
  · rcases get_push h2 with h2 | ⟨e2, f2⟩
    · rcases get_push h1 with h1 | ⟨e1, f1⟩
      · exact ((s.at' n b o h1 h2).laid ha).more ext0_push
      · have := (List.getElem?_eq_some_iff.mp h2).1; have := s.len; omega
    · rcases get_push h1 with h1 | ⟨e1, f1⟩
      · have := (List.getElem?_eq_some_iff.mp h1).1; have := s.len; omega
      · subst f1 f2
        exact r
theorem Sim.push {a : Addr} {xs : List D} {vs : List V} (s : Sim K ρ S H) (ha : H a = none) (r : RDs ρ H xs vs) : Sim K (ρ ++ [a]) (S ++ [.lst xs]) (upd H a (.lst vs)) :=
  s.pushG ha ⟨vs, upd_same, r.mono (ext_newl ha)⟩
theorem get_self {α : Type} (l : List α) (a : α) : (l ++ [a])[l.length]? = some a := by
  rw [List.getElem?_append_right (Nat.le_refl _)]; simp
end
structure RO (ρ : List Addr) (H : Hp) (l : Lo) (σ : St) : Prop where
  len : l.length = σ.length
  get : ∀ (i : Nat) (d : D), l[i]? = some (some d) → ∃ v, σ[i]? = some (some v) ∧ RD ρ H d v
theorem RO.mono {ρ ρ' : List Addr} {H H' : Hp} {l : Lo} {σ : St} (r : RO ρ H l σ) (e : Ext ρ H ρ' H') : RO ρ' H' l σ :=
  ⟨r.len, fun i d h => let ⟨v, h1, h2⟩ := r.get i d h; ⟨v, h1, h2.mono e⟩⟩
theorem RO.set {ρ : List Addr} {H : Hp} {l : Lo} {σ : St} {d : D} {v : V} (r : RO ρ H l σ) (i : Nat) (h : RD ρ H d v) : RO ρ H (l.set i (some d)) (σ.set i (some v)) := by
  refine ⟨by simp [r.len], fun j x hj => ?_⟩
  by_cases hij : i = j
  · subst hij
    have hl : i < l.length := by have := (List.getElem?_eq_some_iff.mp hj).1; simpa using this
    rw [List.getElem?_set_self hl] at hj
    cases hj
    exact ⟨v, List.getElem?_set_self (by rw [← r.len]; exact hl), h⟩
  · rw [List.getElem?_set_ne hij] at hj
    rw [List.getElem?_set_ne hij]
    exact r.get j x hj
noncomputable abbrev EM := Lo → Sto → Option (D × Sto)
noncomputable abbrev TM := Lo → Sto → Option (Bool × Sto)
noncomputable abbrev AM := Lo → Sto → Option (List D × Sto)
noncomputable abbrev FM := List D → Sto → Option (D × Sto)
inductive Fl where
  | nx | bk | ct | rt (d : D)
noncomputable abbrev SM := Lo → Sto → Option (Fl × Lo × Sto)
noncomputable abbrev GM := D → Lo → Sto → Option (Lo × Sto)
noncomputable abbrev GsM := List D → Lo → Sto → Option (Lo × Sto)
noncomputable def Pv (K : PySem.W.Frag) (ρ : List Addr) (H : Hp) (v : D) (S : Sto) (Q : VK) : Prop := ∀ ρ' H' v', Ext ρ H ρ' H' → Sim K ρ' S H' → RD ρ' H' v v' → Q v' H'
theorem Pv.ext {K : PySem.W.Frag} {ρ ρ1 : List Addr} {H H1 : Hp} {v : D} {S : Sto} {Q : VK} (p : Pv K ρ H v S Q) (e : Ext ρ H ρ1 H1) : Pv K ρ1 H1 v S Q := fun ρ' H' v' e' s r => p ρ' H' v' (e.trans e') s r
inductive te (K : PySem.W.Frag) (m : EM) (σ : St) (H : Hp) (Q : VK) : Prop
  | mk (ρ : _) (l : _) (S : _) (v : _) (S' : _) (_ : Sim K ρ S H) (_ : RO ρ H l σ) (_ : m l S = some (v, S')) (_ : Pv K ρ H v S' Q)
inductive tt (K : PySem.W.Frag) (m : TM) (σ : St) (H : Hp) (Q : Bool → Hp → Prop) : Prop
  | mk (ρ : _) (l : _) (S : _) (v : _) (S' : _) (_ : Sim K ρ S H) (_ : RO ρ H l σ) (_ : m l S = some (v, S')) (_ : ∀ ρ' H', Ext ρ H ρ' H' → Sim K ρ' S' H' → Q v H')
inductive ta (K : PySem.W.Frag) (m : AM) (σ : St) (H : Hp) (Q : List V → Hp → Prop) : Prop
  | mk (ρ : _) (l : _) (S : _) (v : _) (S' : _) (_ : Sim K ρ S H) (_ : RO ρ H l σ) (_ : m l S = some (v, S')) (_ : ∀ ρ' H' vs, Ext ρ H ρ' H' → Sim K ρ' S' H' → RDs ρ' H' v vs → Q vs H')
noncomputable def ends (ρ : List Addr) (H : Hp) (E : Ends) (σ : St) : Fl → Prop
  | .nx => E.nx σ H
  | .bk => E.bk σ H
  | .ct => E.ct σ H
  | .rt d => ∀ v, RD ρ H d v → E.rt v H
inductive ts (K : PySem.W.Frag) (m : SM) (E : Ends) (σ : St) (H : Hp) : Prop
  | mk (ρ : _) (l : _) (S : _) (f : _) (l' : _) (S' : _) (_ : Sim K ρ S H) (_ : RO ρ H l σ) (_ : m l S = some (f, l', S')) (_ : ∀ ρ' H' σ', Ext ρ H ρ' H' → Sim K ρ' S' H' → RO ρ' H' l' σ' → ends ρ' H' E σ' f)
inductive tg (K : PySem.W.Frag) (g : GM) (v : V) (σ : St) (H : Hp) (Q : St → Hp → Prop) : Prop
  | mk (ρ : _) (l : _) (S : _) (d : _) (l' : _) (S' : _) (_ : Sim K ρ S H) (_ : RO ρ H l σ) (_ : RD ρ H d v) (_ : g d l S = some (l', S')) (_ : ∀ ρ' H' σ', Ext ρ H ρ' H' → Sim K ρ' S' H' → RO ρ' H' l' σ' → Q σ' H')
inductive tgs (K : PySem.W.Frag) (g : GsM) (vs : List V) (σ : St) (H : Hp) (Q : St → Hp → Prop) : Prop
  | mk (ρ : _) (l : _) (S : _) (ds : _) (l' : _) (S' : _) (_ : Sim K ρ S H) (_ : RO ρ H l σ) (_ : RDs ρ H ds vs) (_ : g ds l S = some (l', S')) (_ : ∀ ρ' H' σ', Ext ρ H ρ' H' → Sim K ρ' S' H' → RO ρ' H' l' σ' → Q σ' H')
noncomputable def PE3 (X : Cx) (e : Expr) (m : EM) : Prop := PE X e (te X.K m)
noncomputable def PT3 (X : Cx) (e : Expr) (m : TM) : Prop := PT X e (tt X.K m)
noncomputable def PW3 (X : Cx) (e : Expr) (m : TM) : Prop := PW X e (tt X.K m)
noncomputable def PA3 (X : Cx) (es : List Expr) (m : AM) : Prop := PA X es (ta X.K m)
noncomputable def PS3 (X : Cx) (st : Stmt) (m : SM) : Prop := PS X st (ts X.K m)
noncomputable def PSs3 (X : Cx) (st : List Stmt) (m : SM) : Prop := PSs X st (ts X.K m)
noncomputable def PG3 (X : Cx) (tg' : Expr) (m : GM) : Prop := PG X tg' (tg X.K m)
noncomputable def PGs3 (X : Cx) (ts' : List Expr) (m : GsM) : Prop := PGs X ts' (tgs X.K m)
theorem PE.imp {X : Cx} {e : Expr} {t u : TE} (h : PE X e t) (i : ∀ σ H Q, u σ H Q → t σ H Q) : PE X e u := fun pins s σ H Q I q => h pins s σ H Q I (i _ _ _ q)
theorem PT.imp {X : Cx} {e : Expr} {t u : TT} (h : PT X e t) (i : ∀ σ H Q, u σ H Q → t σ H Q) : PT X e u := fun pins s σ H Q I q => h pins s σ H Q I (i _ _ _ q)
theorem PW.imp {X : Cx} {e : Expr} {t u : TT} (h : PW X e t) (i : ∀ σ H Q, u σ H Q → t σ H Q) : PW X e u := fun wh pins s σ H Q I q => h wh pins s σ H Q I (i _ _ _ q)
theorem PA.imp {X : Cx} {e : List Expr} {t u : TA} (h : PA X e t) (i : ∀ σ H Q, u σ H Q → t σ H Q) : PA X e u := fun pos pins s σ H Q I q => h pos pins s σ H Q I (i _ _ _ q)
theorem PS.imp {X : Cx} {e : Stmt} {t u : TS} (h : PS X e t) (i : ∀ E σ H, u E σ H → t E σ H) : PS X e u := fun pins s σ H Q I q => h pins s σ H Q I (i _ _ _ q)
theorem PSs.imp {X : Cx} {e : List Stmt} {t u : TS} (h : PSs X e t) (i : ∀ E σ H, u E σ H → t E σ H) : PSs X e u := fun pins s σ H Q I q => h pins s σ H Q I (i _ _ _ q)
theorem PG.imp {X : Cx} {e : Expr} {t u : TG} (h : PG X e t) (i : ∀ v σ H Q, u v σ H Q → t v σ H Q) : PG X e u := fun pins s σ H v w Q I r q => h pins s σ H v w Q I r (i _ _ _ _ q)
theorem PGs.imp {X : Cx} {e : List Expr} {t u : TGs} (h : PGs X e t) (i : ∀ v σ H Q, u v σ H Q → t v σ H Q) : PGs X e u := fun pins s σ H v w Q I r q => h pins s σ H v w Q I r (i _ _ _ _ q)
inductive Bnd {α β : Type} (o : Option α) (f : α → Option β) (b : β) : Prop
  | mk (a : α) (_ : o = some a) (_ : f a = some b)
theorem bnd {α β : Type} {o : Option α} {f : α → Option β} {b : β} (h : o.bind f = some b) : Bnd o f b := by
  obtain ⟨a, h1, h2⟩ := Option.bind_eq_some_iff.mp h
  exact ⟨a, h1, h2⟩
noncomputable def eVar (i : Nat) : EM := fun l S => match l[i]? with
  | some (some d) => some (d, S)
  | _ => none
noncomputable def eC (d : D) : EM := fun _ S => some (d, S)
noncomputable def eOp (f : D → D → Sto → Option (D × Sto)) (a b : EM) : EM := fun l S => (a l S).bind fun p => (b l p.2).bind fun q => f p.1 q.1 q.2
noncomputable def eUn (f : D → Sto → Option (D × Sto)) (a : EM) : EM := fun l S => (a l S).bind fun p => f p.1 p.2
noncomputable def aNil : AM := fun _ S => some ([], S)
noncomputable def aCons (a : EM) (r : AM) : AM := fun l S => (a l S).bind fun p => (r l p.2).bind fun q => some (p.1 :: q.1, q.2)
noncomputable def eCall (f : FM) (as : AM) : EM := fun l S => (as l S).bind fun p => f p.1 p.2
noncomputable def tE (a : EM) : TM := fun l S => (a l S).bind fun p => match p.1 with
  | .bl b => some (b, p.2)
  | _ => none
noncomputable def tAnd3 (a b : TM) : TM := fun l S => (a l S).bind fun p => if p.1 = true then b l p.2 else some (false, p.2)
noncomputable def tOr3 (a b : TM) : TM := fun l S => (a l S).bind fun p => if p.1 = true then some (true, p.2) else b l p.2
noncomputable def tNot3 (a : TM) : TM := fun l S => (a l S).bind fun p => some (!p.1, p.2)
noncomputable def eAnd3 (a b : EM) : EM := fun l S => (a l S).bind fun p => match p.1 with
  | .bl true => b l p.2
  | .bl false => some (.bl false, p.2)
  | _ => none
noncomputable def eOr3 (a b : EM) : EM := fun l S => (a l S).bind fun p => match p.1 with
  | .bl true => some (.bl true, p.2)
  | .bl false => b l p.2
  | _ => none
noncomputable def eNot3 (a : EM) : EM := fun l S => (a l S).bind fun p => match p.1 with
  | .bl b => some (.bl (!b), p.2)
  | _ => none
noncomputable def eIf3 (c : TM) (a b : EM) : EM := fun l S => (c l S).bind fun p => if p.1 = true then a l p.2 else b l p.2
noncomputable def Op3 (K : PySem.W.Frag) (f : D → D → Sto → Option (D × Sto)) (r : R2) : Prop :=
  ∀ ρ S H x y x' y' v S' Q, Sim K ρ S H → RD ρ H x x' → RD ρ H y y' → f x y S = some (v, S') → Pv K ρ H v S' Q → r x' y' H Q
noncomputable def Fn3 (K : PySem.W.Frag) (f : FM) (r : List V → Hp → VK → Prop) : Prop :=
  ∀ ρ S H xs vs v S' Q, Sim K ρ S H → RDs ρ H xs vs → f xs S = some (v, S') → Pv K ρ H v S' Q → r vs H Q
noncomputable def Mt3 (K : PySem.W.Frag) (f : D → List D → Sto → Option (D × Sto)) (r : V → List V → Hp → VK → Prop) : Prop :=
  ∀ ρ S H x x' xs vs v S' Q, Sim K ρ S H → RD ρ H x x' → RDs ρ H xs vs → f x xs S = some (v, S') → Pv K ρ H v S' Q → r x' vs H Q
theorem te_op {K : PySem.W.Frag} {f : D → D → Sto → Option (D × Sto)} {r : R2} (h : Op3 K f r) {a b : EM} (σ : St) (H : Hp) (Q : VK) (q : te K (eOp f a b) σ H Q) : tOp r (te K a) (te K b) σ H Q := by
  obtain ⟨ρ, l, S, v, S', sim, ro, hm, p⟩ := q
  obtain ⟨⟨x, S1⟩, h1, hm⟩ := bnd hm
  obtain ⟨⟨y, S2⟩, h2, hm⟩ := bnd hm
  exact ⟨ρ, l, S, x, S1, sim, ro, h1, fun ρ1 H1 x' e1 s1 r1 => ⟨ρ1, l, S1, y, S2, s1, ro.mono e1, h2, fun ρ2 H2 y' e2 s2 r2 => h ρ2 S2 H2 x y x' y' v S' Q s2 (r1.mono e2) r2 hm (p.ext (e1.trans e2))⟩⟩
section
variable {X : Cx} {a b c : Expr} {es : List Expr} {ma mb : EM} {mA : AM} {pos : Pos}
theorem p3_var (i : Nat) {x : Str} (hN : X.N[i]? = some x := by rfl) (hv : Vis X.env.scope x := by first | exact Or.inl rfl | exact Or.inr (Or.inl rfl) | exact Or.inr (Or.inr rfl)) (hd : (x == ("__debug__" : Str)) = false := by decide)
    (hcd : (x == ("__classdict__" : Str)) = false := by decide) : PE3 X (.Name x pos) (eVar i) :=
  PE.imp (pe_var hN hv hd hcd) fun σ H Q hx1_ => by
    obtain ⟨ρ, l, S, v, S', sim, ro, hm, p⟩ := hx1_
    unfold eVar at hm
    split at hm
    · rename_i d e
      cases hm
      obtain ⟨w, h1, h2⟩ := ro.get i _ e
      exact ⟨w, h1, p ρ H w (Ext.refl ..) sim h2⟩
    · cases hm
theorem te_c {K : PySem.W.Frag} {d : D} {v : V} (h : ∀ ρ H, RD ρ H d v) (σ : St) (H : Hp) (Q : VK) (q : te K (eC d) σ H Q) : tC v σ H Q := by
  obtain ⟨ρ, l, S, w, S', sim, ro, hm, p⟩ := q
  cases hm
  exact p ρ H v (Ext.refl ..) sim (h ρ H)
theorem p3_int {i j} : PE3 X (.Constant (.int i) j pos) (eC (.int i)) := PE.imp pe_int (te_c fun _ _ => .int i)
theorem p3_bl {i j} : PE3 X (.Constant (.bool i) j pos) (eC (.bl i)) := PE.imp pe_bl (te_c fun _ _ => .bl i)
theorem p3_non {j} : PE3 X (.Constant .none j pos) (eC .non) := PE.imp pe_non (te_c fun _ _ => .non)
theorem p3_str {i j} : PE3 X (.Constant (.str i) j pos) (eC (.str i)) := PE.imp pe_str (te_c fun _ _ => .str i)
theorem p3_op {op : Operator} {f : D → D → Sto → Option (D × Sto)} {r : R2} (ho : OpR X (binaryOp op) r) (h3 : Op3 X.K f r) (ha : PE3 X a ma) (hb : PE3 X b mb) : PE3 X (.BinOp a op b pos) (eOp f ma mb) := PE.imp (pe_op ho ha hb) (te_op h3)
theorem p3_cmp {op : CmpOp} {f : D → D → Sto → Option (D × Sto)} {r : R2} (ho : OpR X (compareOp op) r) (h3 : Op3 X.K f r) (ha : PE3 X a ma) (hb : PE3 X b mb) (hm : behindInMarks op b = false) : PE3 X (.Compare a [op] [b] pos) (eOp f ma mb) := PE.imp (pe_cmpR ho ha hb hm) (te_op h3)
theorem tt_e {K : PySem.W.Frag} {m : EM} (σ : St) (H : Hp) (Q : Bool → Hp → Prop) (q : tt K (tE m) σ H Q) : te K m σ H fun x H' => ∃ k, x = .bl k ∧ Q k H' := by
  obtain ⟨ρ, l, S, v, S', sim, ro, hm, p⟩ := q
  obtain ⟨⟨x, S1⟩, h1, hm⟩ := bnd hm
  refine ⟨ρ, l, S, x, S1, sim, ro, h1, fun ρ' H' v' e s r => ?_⟩
  cases r with
  | bl k => cases hm; exact ⟨_, rfl, p ρ' H' e s⟩
  | _ => cases hm
theorem t3_cmp {op : CmpOp} {f : D → D → Sto → Option (D × Sto)} {r : R2} (ho : OpR X (compareOp op) r) (h3 : Op3 X.K f r) (ha : PE3 X a ma) (hb : PE3 X b mb) (hm : behindInMarks op b = false) : PT3 X (.Compare a [op] [b] pos) (tE (eOp f ma mb)) :=
  PT.imp (pt_cmpR ho ha hb hm) fun σ H Q q => te_op h3 σ H _ (tt_e σ H Q q)
theorem t3_val {m : EM} (h : PE3 X a m) (he : ∀ whole, isTrue a X.env whole = (do let v ← whole; standAt a.pos; holding [v] (truthy v)) := by intro _; rfl) : PT3 X a (tE m) :=
  PT.imp (pt_val h he) fun σ H Q q => tt_e σ H Q q
noncomputable def eChain (f g : D → D → Sto → Option (D × Sto)) (a b c : EM) : EM := fun l S => (a l S).bind fun p => (b l p.2).bind fun q => (f p.1 q.1 q.2).bind fun r => match r.1 with
  | .bl true => (c l r.2).bind fun s => g q.1 s.1 s.2
  | .bl false => some (.bl false, r.2)
  | _ => none
theorem te_chain {K : PySem.W.Frag} {f g : D → D → Sto → Option (D × Sto)} {r r' : R2} (h : Op3 K f r) (h' : Op3 K g r') {a b c : EM} (σ : St) (H : Hp) (Q : VK) (q : te K (eChain f g a b c) σ H Q) : tChain r r' (te K a) (te K b) (te K c) σ H Q := by
  obtain ⟨ρ, l, S, v, S', sim, ro, hm, p⟩ := q
  obtain ⟨⟨x, S1⟩, h1, hm⟩ := bnd hm
  obtain ⟨⟨y, S2⟩, h2, hm⟩ := bnd hm
  obtain ⟨⟨z, S3⟩, h3, hm⟩ := bnd hm
  refine ⟨ρ, l, S, x, S1, sim, ro, h1, fun ρ1 H1 x' e1 s1 r1 => ⟨ρ1, l, S1, y, S2, s1, ro.mono e1, h2, fun ρ2 H2 y' e2 s2 r2 => ?_⟩⟩
  refine h ρ2 S2 H2 x y x' y' z S3 _ s2 (r1.mono e2) r2 h3 fun ρ3 H3 z' e3 s3 r3 => ?_
  cases r3 with
  | bl k =>
    refine ⟨k, rfl, ?_⟩
    cases k with
    | false =>
      cases hm
      exact iteF (p ρ3 H3 _ (e1.trans (e2.trans e3)) s3 (.bl false))
    | true =>
      obtain ⟨⟨w, S4⟩, h4, hm⟩ := bnd hm
      exact iteT ⟨ρ3, l, S3, w, S4, s3, ro.mono (e1.trans (e2.trans e3)), h4, fun ρ4 H4 w' e4 s4 r4 => h' ρ4 S4 H4 y w y' w' v S' Q s4 (r2.mono (e3.trans e4)) r4 hm (p.ext (e1.trans (e2.trans (e3.trans e4))))⟩
  | _ => cases hm
theorem p3_chain {op op' : CmpOp} {f g : D → D → Sto → Option (D × Sto)} {r r' : R2} {mc : EM} (ho : OpR X (compareOp op) r) (ho' : OpR X (compareOp op') r') (h3 : Op3 X.K f r) (h3' : Op3 X.K g r') (ha : PE3 X a ma) (hb : PE3 X b mb) (hc : PE3 X c mc)
    (hm : lastMarks [op, op'] [b, c] = false := by with_unfolding_all rfl) : PE3 X (.Compare a [op, op'] [b, c] pos) (eChain f g ma mb mc) := PE.imp (pe_chain ho ho' ha hb hc hm) (te_chain h3 h3')
variable {t u : TM} {rest : List Expr}
theorem tt_and {K : PySem.W.Frag} (σ : St) (H : Hp) (Q : Bool → Hp → Prop) (q : tt K (tAnd3 t u) σ H Q) : L2.tAnd (tt K t) (tt K u) σ H Q := by
  obtain ⟨ρ, l, S, v, S', sim, ro, hm, p⟩ := q
  obtain ⟨⟨x, S1⟩, h1, hm⟩ := bnd hm
  refine ⟨ρ, l, S, x, S1, sim, ro, h1, fun ρ1 H1 e1 s1 => ?_⟩
  cases x with
  | true => exact iteT ⟨ρ1, l, S1, v, S', s1, ro.mono e1, hm, fun ρ2 H2 e2 s2 => p ρ2 H2 (e1.trans e2) s2⟩
  | false => cases hm; exact iteF (p ρ1 H1 e1 s1)
theorem tt_or {K : PySem.W.Frag} (σ : St) (H : Hp) (Q : Bool → Hp → Prop) (q : tt K (tOr3 t u) σ H Q) : L2.tOr (tt K t) (tt K u) σ H Q := by
  obtain ⟨ρ, l, S, v, S', sim, ro, hm, p⟩ := q
  obtain ⟨⟨x, S1⟩, h1, hm⟩ := bnd hm
  refine ⟨ρ, l, S, x, S1, sim, ro, h1, fun ρ1 H1 e1 s1 => ?_⟩
  cases x with
  | false => exact iteF ⟨ρ1, l, S1, v, S', s1, ro.mono e1, hm, fun ρ2 H2 e2 s2 => p ρ2 H2 (e1.trans e2) s2⟩
  | true => cases hm; exact iteT (p ρ1 H1 e1 s1)
theorem w3_and1 (ha : PT3 X a t) : PW3 X (.BoolOp .And [a] pos) t := pw_and1 ha
theorem w3_or1 (ha : PT3 X a t) : PW3 X (.BoolOp .Or [a] pos) t := pw_or1 ha
theorem w3_and (ha : PT3 X a t) (hb : PW3 X (.BoolOp .And (b :: rest) pos) u) : PW3 X (.BoolOp .And (a :: b :: rest) pos) (tAnd3 t u) := PW.imp (pw_and ha hb) tt_and
theorem w3_or (ha : PT3 X a t) (hb : PW3 X (.BoolOp .Or (b :: rest) pos) u) : PW3 X (.BoolOp .Or (a :: b :: rest) pos) (tOr3 t u) := PW.imp (pw_or ha hb) tt_or
theorem t3_w (h : PW3 X a t) : PT3 X a t := PW.pt h
theorem t3_not (ha : PT3 X a t) : PT3 X (.UnaryOp .Not a pos) (tNot3 t) := PT.imp (pt_not ha) fun σ H Q hx2_ => by
  obtain ⟨ρ, l, S, v, S', sim, ro, hm, p⟩ := hx2_
  obtain ⟨⟨x, S1⟩, h1, hm⟩ := bnd hm
  cases hm
  exact ⟨ρ, l, S, x, S1, sim, ro, h1, p⟩
theorem p3_one {op} (h : PE3 X a ma) : PE3 X (.BoolOp op [a] pos) ma := pe_one h
theorem p3_and (ha : PE3 X a ma) (hb : PE3 X (.BoolOp .And (b :: rest) pos) mb) : PE3 X (.BoolOp .And (a :: b :: rest) pos) (eAnd3 ma mb) := PE.imp (pe_and ha hb) fun σ H Q hx3_ => by
  obtain ⟨ρ, l, S, v, S', sim, ro, hm, p⟩ := hx3_
  obtain ⟨⟨x, S1⟩, h1, hm⟩ := bnd hm
  refine ⟨ρ, l, S, x, S1, sim, ro, h1, fun ρ1 H1 x' e1 s1 r1 => ?_⟩
  cases r1 with
  | bl k =>
    refine ⟨k, rfl, ?_⟩
    cases k with
    | true => exact iteT ⟨ρ1, l, S1, v, S', s1, ro.mono e1, hm, p.ext e1⟩
    | false => cases hm; exact iteF (p ρ1 H1 _ e1 s1 (.bl false))
  | _ => cases hm
theorem p3_not (ha : PE3 X a ma) : PE3 X (.UnaryOp .Not a pos) (eNot3 ma) := PE.imp (pe_not ha) fun σ H Q hx5_ => by
  obtain ⟨ρ, l, S, v, S', sim, ro, hm, p⟩ := hx5_
  obtain ⟨⟨x, S1⟩, h1, hm⟩ := bnd hm
  refine ⟨ρ, l, S, x, S1, sim, ro, h1, fun ρ1 H1 x' e1 s1 r1 => ?_⟩
  cases r1 with
  | bl k => cases hm; exact ⟨k, rfl, p ρ1 H1 _ e1 s1 (.bl _)⟩
  | _ => cases hm
theorem p3_ifE {mc : TM} (hc : PT3 X c mc) (ha : PE3 X a ma) (hb : PE3 X b mb) : PE3 X (.IfExp c a b pos) (eIf3 mc ma mb) := PE.imp (pe_ifExp hc ha hb) fun σ H Q hx6_ => by
  obtain ⟨ρ, l, S, v, S', sim, ro, hm, p⟩ := hx6_
  obtain ⟨⟨x, S1⟩, h1, hm⟩ := bnd hm
  refine ⟨ρ, l, S, x, S1, sim, ro, h1, fun ρ1 H1 e1 s1 => ?_⟩
  cases x with
  | true => exact iteT ⟨ρ1, l, S1, v, S', s1, ro.mono e1, hm, p.ext e1⟩
  | false => exact iteF ⟨ρ1, l, S1, v, S', s1, ro.mono e1, hm, p.ext e1⟩
theorem a3_nil : PA3 X [] aNil := PA.imp pa_nil fun σ H Q hx7_ => by
  obtain ⟨ρ, l, S, v, S', sim, ro, hm, p⟩ := hx7_
  cases hm
  exact p ρ H [] (Ext.refl ..) sim .nil
theorem a3_cons (ha : PE3 X a ma) (hr : PA3 X es mA) (hs : starEach (a :: es) X.env = (false, eval a X.env) :: starEach es X.env := by rfl) : PA3 X (a :: es) (aCons ma mA) := PA.imp (pa_cons ha hr hs) fun σ H Q hx8_ => by
  obtain ⟨ρ, l, S, v, S', sim, ro, hm, p⟩ := hx8_
  obtain ⟨⟨x, S1⟩, h1, hm⟩ := bnd hm
  obtain ⟨⟨y, S2⟩, h2, hm⟩ := bnd hm
  cases hm
  exact ⟨ρ, l, S, x, S1, sim, ro, h1, fun ρ1 H1 x' e1 s1 r1 => ⟨ρ1, l, S1, y, _, s1, ro.mono e1, h2, fun ρ2 H2 vs e2 s2 r2 => p ρ2 H2 _ (e1.trans e2) s2 (.cons (r1.mono e2) r2)⟩⟩
noncomputable def fTup : FM := fun xs S => if xs.length ≤ sizeLine then some (.tup xs, S) else none
noncomputable def fLst : FM := fun xs S => if xs.length ≤ sizeLine then some (.ref S.length, S ++ [.lst xs]) else none
theorem ite_some {α : Type} {c : Prop} [Decidable c] {a b : α} (h : (if c then some a else none) = some b) : c ∧ a = b := by
  by_cases hc : c
  · rw [if_pos hc] at h; exact ⟨hc, Option.some.inj h⟩
  · rw [if_neg hc] at h; cases h
theorem new_tup {K : PySem.W.Frag} {ρ : List Addr} {S : Sto} {H : Hp} {xs : List D} {vs : List V} {Q : VK} (sim : Sim K ρ S H) (r : RDs ρ H xs vs) (p : Pv K ρ H (.tup xs) S Q) : ∀ a, H a = none → Q (.ref a) (upd H a (.tup vs)) := fun a ha =>
  p ρ _ _ (ext_new ha) (sim.laid ha) (.tup upd_same (r.mono (ext_new ha)))
theorem new_lst {K : PySem.W.Frag} {ρ : List Addr} {S : Sto} {H : Hp} {xs : List D} {vs : List V} {Q : VK} (sim : Sim K ρ S H) (r : RDs ρ H xs vs) (p : Pv K ρ H (.ref S.length) (S ++ [.lst xs]) Q) : ∀ a, H a = none → Q (.ref a) (upd H a (.lst vs)) := fun a ha =>
  p (ρ ++ [a]) _ _ (ext_newl ha) (sim.push ha r) (.ref (by rw [← sim.len]; exact get_self ρ a))
theorem p3_tup {x1} (h : PA3 X es mA) : PE3 X (.Tuple es x1 pos) (eCall fTup mA) := PE.imp (pe_tup h) fun σ H Q hx9_ => by
  obtain ⟨ρ, l, S, v, S', sim, ro, hm, p⟩ := hx9_
  obtain ⟨⟨x, S1⟩, h1, hm⟩ := bnd hm
  obtain ⟨hz, e⟩ := ite_some hm
  cases e
  exact ⟨ρ, l, S, x, _, sim, ro, h1, fun ρ1 H1 vs e1 s1 r1 => ⟨by rw [← r1.length]; exact hz, new_tup s1 r1 (p.ext e1)⟩⟩
theorem p3_lst (h : PA3 X es mA) : PE3 X (.List es pos) (eCall fLst mA) := PE.imp (pe_lst h) fun σ H Q hx10_ => by
  obtain ⟨ρ, l, S, v, S', sim, ro, hm, p⟩ := hx10_
  obtain ⟨⟨x, S1⟩, h1, hm⟩ := bnd hm
  obtain ⟨hz, e⟩ := ite_some hm
  cases e
  exact ⟨ρ, l, S, x, _, sim, ro, h1, fun ρ1 H1 vs e1 s1 r1 => ⟨by rw [← r1.length]; exact hz, new_lst s1 r1 (p.ext e1)⟩⟩
theorem te_call {K : PySem.W.Frag} {f : FM} {r : List V → Hp → VK → Prop} (h3 : Fn3 K f r) (σ : St) (H : Hp) (Q : VK) (q : te K (eCall f mA) σ H Q) : tCB r (ta K mA) σ H Q := by
  obtain ⟨ρ, l, S, v, S', sim, ro, hm, p⟩ := q
  obtain ⟨⟨x, S1⟩, h1, hm⟩ := bnd hm
  exact ⟨ρ, l, S, x, S1, sim, ro, h1, fun ρ1 H1 vs e1 s1 r1 => h3 ρ1 S1 H1 x vs v S' Q s1 r1 hm (p.ext e1)⟩
theorem p3_callB {x : Str} {p : Pos} {id : String} {f : FM} {r : List V → Hp → VK → Prop} (hc : CallR X (.builtin id) r) (h3 : Fn3 X.K f r) (hg : Gl X x) (hm : X.mg x = none) (hv : bootBuiltins x = some (.builtin id)) (ha : PA3 X (a :: es) mA) (hn : x ≠ "__name__" := by decide) (hdb : (x == ("__debug__" : Str)) = false := by decide)
    (he : starEach (a :: es) X.env = (false, eval a X.env) :: starEach es X.env := by rfl) (hpl : (backTo pos (starEach es X.env)).any (·.1) = false := by rfl) : PE3 X (.Call (.Name x p) (a :: es) [] pos) (eCall f mA) :=
  PE.imp (pe_callB hc hg hm hv ha hn hdb he hpl) (te_call h3)
theorem p3_callTy {x : Str} {p : Pos} {T : String} {f : FM} {r : List V → Hp → VK → Prop} (hc : CallR X (.type T) r) (h3 : Fn3 X.K f r) (hg : Gl X x) (hm : X.mg x = none) (hv : bootBuiltins x = some (.type T)) (ha : PA3 X (a :: es) mA) (hn : x ≠ "__name__" := by decide) (hdb : (x == ("__debug__" : Str)) = false := by decide)
    (he : starEach (a :: es) X.env = (false, eval a X.env) :: starEach es X.env := by rfl) (hpl : (backTo pos (starEach es X.env)).any (·.1) = false := by rfl) : PE3 X (.Call (.Name x p) (a :: es) [] pos) (eCall f mA) :=
  PE.imp (pe_callTy hc hg hm hv ha hn hdb he hpl) (te_call h3)
end
end L3
namespace L3
open PySem PySem.Spec PyProof.Rows L2
noncomputable def oI (C : Int → Int → Bool) (g : Int → Int → D) : D → D → Sto → Option (D × Sto)
  | .int i, .int j, S => if C i j = true then some (g i j, S) else none
  | _, _, _ => none
noncomputable def oI0 (g : Int → Int → D) : D → D → Sto → Option (D × Sto)
  | .int i, .int j, S => some (g i j, S)
  | _, _, _ => none
theorem op3_I {K : PySem.W.Frag} {C : Int → Int → Bool} {C' : Int → Int → Prop} {g : Int → Int → D} {g' : Int → Int → V} (hC : ∀ i j, C i j = true → C' i j) (hg : ∀ ρ H i j, RD ρ H (g i j) (g' i j)) : Op3 K (oI C g) (rI C' g') := by
  intro ρ S H x y x' y' v S' Q sim rx ry h p
  unfold oI at h
  split at h
  · rename_i i j
    cases rx; cases ry
    obtain ⟨hc, e⟩ := ite_some h
    cases e
    exact ⟨i, j, rfl, rfl, hC i j hc, p ρ H _ (Ext.refl ..) sim (hg ρ H i j)⟩
  · cases h
theorem op3_I0 {K : PySem.W.Frag} {g : Int → Int → D} {g' : Int → Int → V} (hg : ∀ ρ H i j, RD ρ H (g i j) (g' i j)) : Op3 K (oI0 g) (rI0 g') := by
  intro ρ S H x y x' y' v S' Q sim rx ry h p
  unfold oI0 at h
  split at h
  · rename_i i j
    cases rx; cases ry
    cases h
    exact ⟨i, j, rfl, rfl, p ρ H _ (Ext.refl ..) sim (hg ρ H i j)⟩
  · cases h
theorem Op3.or {K : PySem.W.Frag} {f : D → D → Sto → Option (D × Sto)} {g : D → D → Sto → Option (D × Sto)} {r r' : R2} (h : Op3 K f r) (h' : Op3 K g r') : Op3 K (fun x y S => match f x y S with | some v => some v | none => g x y S) (fun x y H Q => r x y H Q ∨ r' x y H Q) := by
  intro ρ S H x y x' y' v S' Q sim rx ry hm p
  dsimp only at hm
  cases e : f x y S with
  | some w => rw [e] at hm; cases hm; exact .inl (h ρ S H x y x' y' _ _ Q sim rx ry e p)
  | none => rw [e] at hm; exact .inr (h' ρ S H x y x' y' _ _ Q sim rx ry hm p)
noncomputable abbrev dSub := oI0 fun i j => .int (i - j)
noncomputable abbrev dDiv := oI (fun i j => decide (0 < j ∧ j < 1073741824)) fun i j => .int (i / j)
noncomputable abbrev dMod := oI (fun i j => decide (0 < j)) fun i j => .int (i % j)
noncomputable abbrev dPow := oI (fun i j => decide (0 ≤ j ∧ j ≤ 1000000 ∧ i.natAbs < 2 ^ 64)) fun i j => .int (i ^ j.toNat)
noncomputable abbrev dLt := oI0 fun i j => .bl (decide (i < j))
noncomputable abbrev dLe := oI0 fun i j => .bl (decide (i ≤ j))
noncomputable abbrev dGt := oI0 fun i j => .bl (decide (j < i))
noncomputable abbrev dGe := oI0 fun i j => .bl (decide (j ≤ i))
section
variable {X : Cx} {a b : Expr} {ma mb : EM} {pos : Pos}
theorem p3_sub (ha : PE3 X a ma) (hb : PE3 X b mb) : PE3 X (.BinOp a .Sub b pos) (eOp dSub ma mb) := p3_op op_sub (op3_I0 fun _ _ _ _ => .int _) ha hb
theorem p3_div (ha : PE3 X a ma) (hb : PE3 X b mb) : PE3 X (.BinOp a .FloorDiv b pos) (eOp dDiv ma mb) := p3_op op_fdiv (op3_I (fun i j h => by first | (unfold CMul; exact of_decide_eq_true h) | (unfold CDiv; exact of_decide_eq_true h) | (unfold CPow; exact of_decide_eq_true h) | exact of_decide_eq_true h) fun _ _ _ _ => .int _) ha hb
theorem p3_mod (ha : PE3 X a ma) (hb : PE3 X b mb) : PE3 X (.BinOp a .Mod b pos) (eOp dMod ma mb) := p3_op op_mod (op3_I (fun i j h => by first | (unfold CMul; exact of_decide_eq_true h) | (unfold CDiv; exact of_decide_eq_true h) | (unfold CPow; exact of_decide_eq_true h) | exact of_decide_eq_true h) fun _ _ _ _ => .int _) ha hb
theorem p3_pow (ha : PE3 X a ma) (hb : PE3 X b mb) : PE3 X (.BinOp a .Pow b pos) (eOp dPow ma mb) := p3_op op_pow (op3_I (fun i j h => by first | (unfold CMul; exact of_decide_eq_true h) | (unfold CDiv; exact of_decide_eq_true h) | (unfold CPow; exact of_decide_eq_true h) | exact of_decide_eq_true h) fun _ _ _ _ => .int _) ha hb
theorem t3_lt (ha : PE3 X a ma) (hb : PE3 X b mb) : PT3 X (.Compare a [.Lt] [b] pos) (tE (eOp dLt ma mb)) := t3_cmp op_lt (op3_I0 fun _ _ _ _ => .bl _) ha hb (nomark b)
theorem t3_gt (ha : PE3 X a ma) (hb : PE3 X b mb) : PT3 X (.Compare a [.Gt] [b] pos) (tE (eOp dGt ma mb)) := t3_cmp op_gt (op3_I0 fun _ _ _ _ => .bl _) ha hb (nomark b)
theorem t3_ge (ha : PE3 X a ma) (hb : PE3 X b mb) : PT3 X (.Compare a [.GtE] [b] pos) (tE (eOp dGe ma mb)) := t3_cmp op_ge (op3_I0 fun _ _ _ _ => .bl _) ha hb (nomark b)
end
noncomputable def sEq : D → D → Option Bool
  | .non, .non => some true | .non, .int _ => some false | .int _, .non => some false | .non, .bl _ => some false | .bl _, .non => some false | .non, .str _ => some false | .str _, .non => some false
  | .int i, .int j => some (decide (i = j)) | .bl i, .bl j => some (decide (i = j)) | .str i, .str j => some (decide (i = j))
  | .int _, .str _ => some false | .str _, .int _ => some false | .bl _, .str _ => some false | .str _, .bl _ => some false
  | _, _ => none
noncomputable def dEq : D → D → Sto → Option (D × Sto) := fun x y S => (sEq x y).bind fun b => some (.bl b, S)
noncomputable def dNe : D → D → Sto → Option (D × Sto) := fun x y S => (sEq x y).bind fun b => some (.bl (!b), S)
theorem sEq_ok {ρ : List Addr} {H : Hp} {x y : D} {x' y' : V} {b : Bool} (rx : RD ρ H x x') (ry : RD ρ H y y') (h : sEq x y = some b) : scal x' y' = true ∧ decide (x' = y') = b := by
  cases rx <;> cases ry <;> first
    | (cases (show (none : Option Bool) = some b from h))
    | (have h := Option.some.inj h; subst h; exact ⟨rfl, rfl⟩)
    | (have h := Option.some.inj h; subst h; exact ⟨rfl, by simp⟩)
theorem op3_eq {K : PySem.W.Frag} : Op3 K dEq rEq := by
  intro ρ S H x y x' y' v S' Q sim rx ry h p
  obtain ⟨b, h1, h⟩ := bnd h
  cases h
  obtain ⟨h2, h3⟩ := sEq_ok rx ry h1
  exact ⟨h2, by rw [h3]; exact p ρ H _ (Ext.refl ..) sim (.bl b)⟩
theorem op3_ne {K : PySem.W.Frag} : Op3 K dNe rNe := by
  intro ρ S H x y x' y' v S' Q sim rx ry h p
  obtain ⟨b, h1, h⟩ := bnd h
  cases h
  obtain ⟨h2, h3⟩ := sEq_ok rx ry h1
  exact ⟨h2, by rw [h3]; exact p ρ H _ (Ext.refl ..) sim (.bl _)⟩
noncomputable def isNon : D → Bool
  | .non => true
  | _ => false
noncomputable def dIs : D → D → Sto → Option (D × Sto)
  | x, .non, S => some (.bl (isNon x), S)
  | _, _, _ => none
noncomputable def dIsNot : D → D → Sto → Option (D × Sto)
  | x, .non, S => some (.bl (!isNon x), S)
  | _, _, _ => none
theorem isNon_ok {ρ : List Addr} {H : Hp} {x : D} {x' : V} (r : RD ρ H x x') : decide (x' = .non) = isNon x := by
  cases r <;> simp [isNon]
theorem op3_is {K : PySem.W.Frag} : Op3 K dIs (fun x y H Q => y = .non ∧ Q (.bl (decide (x = .non))) H) := by
  intro ρ S H x y x' y' v S' Q sim rx ry h p
  unfold dIs at h
  split at h
  · cases h; cases ry
    exact ⟨rfl, by rw [isNon_ok rx]; exact p ρ H _ (Ext.refl ..) sim (.bl _)⟩
  · cases h
section
variable {X : Cx} {a b : Expr} {ma mb : EM} {pos : Pos}
theorem p3_eq (ha : PE3 X a ma) (hb : PE3 X b mb) : PE3 X (.Compare a [.Eq] [b] pos) (eOp dEq ma mb) := p3_cmp op_eq op3_eq ha hb (nomark b)
theorem t3_eq (ha : PE3 X a ma) (hb : PE3 X b mb) : PT3 X (.Compare a [.Eq] [b] pos) (tE (eOp dEq ma mb)) := t3_cmp op_eq op3_eq ha hb (nomark b)
theorem t3_ne (ha : PE3 X a ma) (hb : PE3 X b mb) : PT3 X (.Compare a [.NotEq] [b] pos) (tE (eOp dNe ma mb)) := t3_cmp op_ne op3_ne ha hb (nomark b)
theorem t3_is (ha : PE3 X a ma) (hb : PE3 X b mb) : PT3 X (.Compare a [.Is] [b] pos) (tE (eOp dIs ma mb)) := t3_cmp op_isN op3_is ha hb (nomark b)
end
noncomputable def dIx : D → D → Sto → Option (D × Sto)
  | .tup xs, .int i, S => (atI xs i).bind fun v => some (v, S)
  | .ref n, .int i, S => (lstOf S n).bind fun xs => (atI xs i).bind fun v => some (v, S)
  | _, _, _ => none
theorem atI_rd {ρ : List Addr} {H : Hp} {xs : List D} {vs : List V} {i : Int} {x : D} (r : RDs ρ H xs vs) (h : atI xs i = some x) : ∃ v, atI vs i = some v ∧ RD ρ H x v := by
  unfold atI at h ⊢
  rw [← r.length]
  cases e : ixN xs.length i with
  | none => rw [e] at h; cases h
  | some j =>
    rw [e] at h
    exact r.get (i := j) h
theorem op3_ix {K : PySem.W.Frag} : Op3 K dIx (rIx K) := by
  intro ρ S H x y x' y' v S' Q sim rx ry h p
  unfold dIx at h
  split at h
  · cases ry
    obtain ⟨w, h1, h⟩ := bnd h
    cases h
    cases rx with
    | tup ha r =>
      obtain ⟨u, h2, r2⟩ := atI_rd r h1
      exact .inr (.inl ⟨_, _, _, u, rfl, rfl, SqT.of ha, h2, p ρ H u (Ext.refl ..) sim r2⟩)
  · cases ry
    obtain ⟨xs, h0, h⟩ := bnd h
    obtain ⟨w, h1, h⟩ := bnd h
    cases h
    cases rx with
    | ref hn =>
      obtain ⟨a, vs, ha, sq, r⟩ := sim.lstOf h0
      rw [ha] at hn; cases hn
      obtain ⟨u, h2, r2⟩ := atI_rd r h1
      exact .inl ⟨_, _, _, u, rfl, rfl, sq, h2, p ρ H u (Ext.refl ..) sim r2⟩
  · cases h
section
variable {X : Cx} {a b : Expr} {ma mb : EM} {pos : Pos}
end
noncomputable abbrev OM := Lo → Sto → Option (Option Int × Sto)
noncomputable def oNone : OM := fun _ S => some (none, S)
noncomputable def oSome (m : EM) : OM := fun l S => (m l S).bind fun p => match p.1 with
  | .int i => some (some i, p.2)
  | _ => none
noncomputable def cutD (xs : List D) (lo hi : Option Int) : List D := (xs.drop (HT.sIx xs.length 0 lo)).take (HT.sIx xs.length xs.length hi - HT.sIx xs.length 0 lo)
inductive tO (K : PySem.W.Frag) (m : OM) (σ : St) (H : Hp) (Q : Option Int → Hp → Prop) : Prop
  | mk (ρ : _) (l : _) (S : _) (v : _) (S' : _) (_ : Sim K ρ S H) (_ : RO ρ H l σ) (_ : m l S = some (v, S')) (_ : ∀ ρ' H', Ext ρ H ρ' H' → Sim K ρ' S' H' → Q v H')
noncomputable def PO3 (X : Cx) (e : Option Expr) (m : OM) : Prop := PO X e (tO X.K m)
section
variable {X : Cx} {a b : Expr} {ma mb : EM} {pos p2 : Pos} {lo hi : Option Expr} {ml mh : OM}
theorem PO.imp {e : Option Expr} {t u : TO} (h : PO X e t) (i : ∀ σ H Q, u σ H Q → t σ H Q) : PO X e u := fun pins s σ H Q I q => h pins s σ H Q I (i _ _ _ q)
theorem o3_none : PO3 X none oNone := PO.imp po_none fun σ H Q hx1_ => by
  obtain ⟨ρ, l, S, v, S', sim, ro, hm, p⟩ := hx1_
  cases hm
  exact p ρ H (Ext.refl ..) sim
theorem o3_some (h : PE3 X a ma) : PO3 X (some a) (oSome ma) := PO.imp (po_some h) fun σ H Q hx2_ => by
  obtain ⟨ρ, l, S, v, S', sim, ro, hm, p⟩ := hx2_
  obtain ⟨⟨x, S1⟩, h1, hm⟩ := bnd hm
  refine ⟨ρ, l, S, x, S1, sim, ro, h1, fun ρ1 H1 x' e1 s1 r1 => ?_⟩
  cases r1 with
  | int i => cases hm; exact ⟨i, rfl, p ρ1 H1 e1 s1⟩
  | _ => cases hm
end
end L3
namespace HT
open PySem PyProof.Rows
section
variable {prog : Program} {w : World} {A : Around} {E : Value → Shared → Prop} {s : Shared}
theorem getItem_tuple_whole {t sl : Addr} {items : Array Value} {vl vu : Value} {lo hi : Option Int} {Q : Value → Shared → Prop} (ht : IsTup s.heap t items) (hs : s.heap.IsSliceOf sl vl vu .none) (pl : IsPart vl lo) (pu : IsPart vu hi)
    (hw : sIx items.size 0 lo = 0 ∧ sIx items.size items.size hi = items.size)
    (h : Q (.ref t) s) : wpAny (model prog w) A (getItem (.ref t) (.ref sl)) Q E s := by
  obtain ⟨os, hos, hcs, hds⟩ := id hs
  have hTs : s.TypeIs (.ref sl) "slice" := ⟨os, hos, hcs⟩
  unfold getItem
  try with_reducible refine wpAny_holding ?_
  first | refine wpAny_bind (wpAny_pure ?_) | skip
  refine wpAny_bind (wpAny_sequenceKey ht.typeIs (by decide) ?_)
  refine wpAny_bind (wpAny_callSpecial?_slot (name := Str.ofString "__getitem__") ht.typeIs PyProof.Rows.slot_tuple_getitem
    (wpAny_call_entry PyProof.Rows.slot_tuple_getitem ht.typeIs entry_tuple_getitem ?_ (args_tuple_getitem _ _)))
  show wpAny _ _ (Builtin.Tuple.tupleItemsOf (.ref t) >>= _) _ _ s
  refine wpAny_bind (tupleItemsOf_ ht ?_)
  refine wpAny_bind (wpAny_typeOf hTs ?_)
  rw [if_pos (by decide)]
  refine wpAny_bind (sliceApplied_gen hs pl pu ?_)
  have hyes : ((((sIx items.size 0 lo : Nat) : Int) == 0 && (1 : Int) == 1 && (sIx items.size items.size hi - sIx items.size 0 lo) == items.size) = true) := by
    rw [hw.1, hw.2]; simp
  show wpAny _ _ (if (((sIx items.size 0 lo : Nat) : Int) == 0 && (1 : Int) == 1 && (sIx items.size items.size hi - sIx items.size 0 lo) == items.size) = true then _ else _) _ _ s
  rw [if_pos hyes]
  unfold Builtin.Tuple.tupleIsExact
  refine wpAny_bind (wpAny_bind (wpAny_typeOf ht.typeIs (wpAny_pure ?_)))
  rw [if_pos (by decide)]
  exact wpAny_bind (wpAny_rule (wpAny_bind (wpAny_pure (wpAny_pure ⟨_, rfl, wpAny_pure h⟩))))
end
end HT
namespace L3
open PySem PySem.Spec PyProof.Rows L2
section
variable {X : Cx} {a b : Expr} {ma mb : EM} {pos p2 : Pos} {lo hi : Option Expr} {ml mh : OM}
noncomputable def rSlW (K : PySem.W.Frag) : V → Option Int → Option Int → Hp → VK → Prop := fun x lo hi H Q => ∃ a xs, x = .ref a ∧ SqT K H a xs ∧
  (HT.sIx xs.length 0 lo = 0 ∧ HT.sIx xs.length xs.length hi = xs.length) ∧ Q (.ref a) H
theorem sl_tupW : SlR X (rSlW X.K) := by
  intro pins s σ H x v vl vu lo hi sl Q I rx hs pl pu h
  obtain ⟨a, xs, rfl, hx, hw, q⟩ := h
  cases rx
  obtain ⟨its, r, ht, hz⟩ := I.tuple hx
  have hlen : its.toArray.size = xs.length := by rw [List.size_toArray]; exact r.length.symm
  refine ⟨"tuple", _, PyProof.Rows.slot_tuple_getitem.lookup, ht.typeIs, ?_⟩
  exact HT.getItem_tuple_whole ht hs pl pu (by rw [hlen]; exact hw) ⟨.ref a, H, I, rfl, q⟩
theorem cut_whole (xs : List D) (lo hi : Option Int) (h : HT.sIx xs.length 0 lo = 0 ∧ HT.sIx xs.length xs.length hi = xs.length) : cutD xs lo hi = xs := by
  unfold cutD; rw [h.1, h.2]; simp
end
noncomputable def dCatT : D → D → Sto → Option (D × Sto)
  | .tup xs, .tup ys, S => if xs.length + ys.length ≤ sizeLine then some (.tup (xs ++ ys), S) else none
  | _, _, _ => none
noncomputable def rCatT0 (K : PySem.W.Frag) : R2 := fun x y H Q => ∃ a b ys, x = .ref a ∧ y = .ref b ∧ SqT K H a [] ∧ SqT K H b ys ∧ Q (.ref b) H
theorem op_catT0 {X : Cx} : OpR X (binaryOp .Add) (rCatT0 X.K) := by
  intro pins s σ H x y v u Q I rx ry h
  obtain ⟨a, b, ys, rfl, rfl, ha, hb, q⟩ := h
  cases rx
  cases ry
  obtain ⟨its, r1, p1, _⟩ := I.tuple ha
  obtain ⟨its2, r2, p2, _⟩ := I.tuple hb
  cases r1
  obtain ⟨⟨cls, dd, data, sl⟩, ho, hc, n, hd⟩ := id p1
  obtain ⟨⟨cls2, dd2, data2, sl2⟩, ho2, hc2, n2, hd2⟩ := id p2
  simp only at hc hd hc2 hd2
  subst hc hd hc2 hd2
  exact concat_meets ⟨_, ho, rfl⟩ ⟨_, ho2, rfl⟩ noFill_tuple_add seq_tuple_add PySem.F.slot_tuple_add PySem.F.entry_tuple_add (PySem.F.args_tuple_add_2 _ _)
      (tuple_addW0 a b ([] : List Value).toArray its2.toArray n n2 dd dd2 sl sl2 (by simp)) ⟨ho, ho2, ⟨.ref b, H, I, rfl, q⟩⟩
theorem op3_catT {K : PySem.W.Frag} : Op3 K dCatT (fun x y H Q => rCatT K x y H Q ∨ rCatT0 K x y H Q) := by
  intro ρ S H x y x' y' v S' Q sim rx ry h p
  unfold dCatT at h
  split at h
  · obtain ⟨hz, e⟩ := ite_some h
    cases e
    cases rx with
    | @tup xs a vs ha r =>
      cases ry with
      | @tup ys b ws hb q =>
        cases r with
        | nil => exact .inr ⟨a, b, ws, rfl, rfl, SqT.of ha, SqT.of hb, p ρ H _ (Ext.refl ..) sim (.tup hb q)⟩
        | cons r1 r2 =>
          refine .inl ⟨a, b, _, ws, rfl, rfl, SqT.of ha, SqT.of hb, by simp, by rw [← (RDs.cons r1 r2).length, ← q.length]; exact hz, fun e => ?_, fun _ => ?_⟩
          · subst e
            cases q
            rw [List.append_nil] at p
            exact p ρ H _ (Ext.refl ..) sim (.tup ha (.cons r1 r2))
          · exact new_tup sim ((RDs.cons r1 r2).append q) p
  · cases h
section
variable {X : Cx} {a b : Expr} {ma mb : EM} {pos : Pos}
end
end L3
namespace L3
open PySem PySem.Spec PyProof.Rows L2
noncomputable def fLen : FM
  | [.tup xs], S => some (.int xs.length, S)
  | [.ref n], S => (lstOf S n).bind fun xs => some (.int xs.length, S)
  | _, _ => none
noncomputable def fAbs : FM
  | [.int i], S => some (.int (if i < 0 then -i else i), S)
  | _, _ => none
noncomputable def fInt : FM
  | [.int i], S => some (.int i, S)
  | [.bl b], S => some (.int (if b then 1 else 0), S)
  | _, _ => none
noncomputable def fTuple : FM
  | [.tup xs], S => some (.tup xs, S)
  | [.ref n], S => (lstOf S n).bind fun xs => some (.tup xs, S)
  | _, _ => none
noncomputable def fList : FM
  | [.tup xs], S => some (.ref S.length, S ++ [.lst xs])
  | [.ref n], S => (lstOf S n).bind fun xs => some (.ref S.length, S ++ [.lst xs])
  | _, _ => none
noncomputable def fMin2 : FM
  | [.int i, .int j], S => some (.int (if j < i then j else i), S)
  | _, _ => none
noncomputable def fMax2 : FM
  | [.int i, .int j], S => some (.int (if j > i then j else i), S)
  | _, _ => none
section
variable {K : PySem.W.Frag}
theorem fn3_len : Fn3 K fLen (fun xs H Q => ∃ p ys, xs = [.ref p] ∧ (SqL K H p ys ∨ SqT K H p ys) ∧ Q (.int ys.length) H) := by
  intro ρ S H xs vs v S' Q sim r h p
  unfold fLen at h
  split at h
  · cases h
    obtain ⟨w, rfl, rw'⟩ := r.one
    cases rw' with
    | tup ha r2 => exact ⟨_, _, rfl, .inr (SqT.of ha), by rw [← r2.length]; exact p ρ H _ (Ext.refl ..) sim (.int _)⟩
  · obtain ⟨ys, h1, h⟩ := bnd h
    cases h
    obtain ⟨w, rfl, rw'⟩ := r.one
    obtain ⟨a, us, ha, sq, r2⟩ := sim.lstOf h1
    cases rw' with
    | ref hn =>
      rw [ha] at hn; cases hn
      exact ⟨_, _, rfl, .inl sq, by rw [← r2.length]; exact p ρ H _ (Ext.refl ..) sim (.int _)⟩
  · cases h
theorem fn3_min2 : Fn3 K fMin2 (fun xs H Q => ∃ i j, xs = [.int i, .int j] ∧ Q (.int (if j < i then j else i)) H) := by
  intro ρ S H xs vs v S' Q sim r h p
  unfold fMin2 at h
  split at h
  · cases h
    obtain ⟨w, u, rfl, rw', ru⟩ := r.two
    cases rw'; cases ru
    exact ⟨_, _, rfl, p ρ H _ (Ext.refl ..) sim (.int _)⟩
  · cases h
theorem fn3_max2 : Fn3 K fMax2 (fun xs H Q => ∃ i j, xs = [.int i, .int j] ∧ Q (.int (if j > i then j else i)) H) := by
  intro ρ S H xs vs v S' Q sim r h p
  unfold fMax2 at h
  split at h
  · cases h
    obtain ⟨w, u, rfl, rw', ru⟩ := r.two
    cases rw'; cases ru
    exact ⟨_, _, rfl, p ρ H _ (Ext.refl ..) sim (.int _)⟩
  · cases h
theorem fn3_tuple : Fn3 K fTuple (fun xs H Q => ∃ p ys, xs = [.ref p] ∧ ((SqL K H p ys ∧ ∀ l, H l = none → Q (.ref l) (upd H l (.tup ys))) ∨ (SqT K H p ys ∧ Q (.ref p) H))) := by
  intro ρ S H xs vs v S' Q sim r h p
  unfold fTuple at h
  split at h
  · cases h
    obtain ⟨w, rfl, rw'⟩ := r.one
    cases rw' with
    | tup ha r2 => exact ⟨_, _, rfl, .inr ⟨SqT.of ha, p ρ H _ (Ext.refl ..) sim (.tup ha r2)⟩⟩
  · obtain ⟨ys, h1, h⟩ := bnd h
    cases h
    obtain ⟨w, rfl, rw'⟩ := r.one
    obtain ⟨a, us, ha, sq, r2⟩ := sim.lstOf h1
    cases rw' with
    | ref hn =>
      rw [ha] at hn; cases hn
      exact ⟨_, _, rfl, .inl ⟨sq, new_tup sim r2 p⟩⟩
  · cases h
theorem fn3_list : Fn3 K fList (fun xs H Q => ∃ p ys, xs = [.ref p] ∧ (SqL K H p ys ∨ SqT K H p ys) ∧ ∀ l, H l = none → Q (.ref l) (upd H l (.lst ys))) := by
  intro ρ S H xs vs v S' Q sim r h p
  unfold fList at h
  split at h
  · cases h
    obtain ⟨w, rfl, rw'⟩ := r.one
    cases rw' with
    | tup ha r2 => exact ⟨_, _, rfl, .inr (SqT.of ha), new_lst sim r2 p⟩
  · obtain ⟨ys, h1, h⟩ := bnd h
    cases h
    obtain ⟨w, rfl, rw'⟩ := r.one
    obtain ⟨a, us, ha, sq, r2⟩ := sim.lstOf h1
    cases rw' with
    | ref hn =>
      rw [ha] at hn; cases hn
      exact ⟨_, _, rfl, .inl sq, new_lst sim r2 p⟩
  · cases h
end
noncomputable def tyD (S : Sto) : D → Option String
  | .non => some "NoneType" | .bl _ => some "bool" | .int _ => some "int" | .str _ => some "str" | .tup _ => some "tuple"
  | .ref n => match S[n]? with
    | some (.lst _) => some "list"
    | some (.dct _) => some "dict"
    | _ => none
  | .fn _ => none
noncomputable def isI (T U : String) : Bool := T == U || (T == "bool" && U == "int")
noncomputable def fIsI (U : String) : D → Sto → Option (D × Sto) := fun x S => (tyD S x).bind fun T => some (.bl (isI T U), S)
noncomputable def mAppend : D → List D → Sto → Option (D × Sto)
  | .ref n, [x], S => match S[n]? with
    | some (.lst xs) => if xs.length < sizeLine then some (.non, S.set n (.lst (xs ++ [x]))) else none
    | _ => none
  | _, _, _ => none
theorem RDs.dropLast {ρ : List Addr} {H : Hp} {xs : List D} {vs : List V} (h : RDs ρ H xs vs) : RDs ρ H xs.dropLast vs.dropLast := by
  rw [List.dropLast_eq_take, List.dropLast_eq_take, h.length]
  exact h.take _
section
variable {K : PySem.W.Frag}
theorem mt3_append : Mt3 K mAppend rAppend := by
  intro ρ S H x x' xs vs v S' Q sim rx r h p
  unfold mAppend at h
  split at h
  · split at h
    · rename_i n y S ys e
      obtain ⟨hz, e2⟩ := ite_some h
      cases e2
      obtain ⟨w, rfl, rw'⟩ := r.one
      obtain ⟨a, us, ha, hH, r2⟩ := sim.lst e
      cases rx with
      | ref hn =>
        rw [ha] at hn; cases hn
        exact ⟨a, us, w, rfl, rfl, hH, by rw [← r2.length]; exact hz, p ρ _ _ (ext_upd ha hH) (sim.set ha e hH (r2.append (.cons rw' .nil))) .non⟩
    · cases h
  · cases h
end
noncomputable def recvL : D → Sto → Option (List D)
  | .ref n, S => lstOf S n
  | _, _ => none
noncomputable def eMethL (f : D → List D → Sto → Option (D × Sto)) (o : EM) (as : AM) : EM := fun l S => (o l S).bind fun p => (recvL p.1 p.2).bind fun _ => (as l p.2).bind fun q => f p.1 q.1 q.2
section
variable {X : Cx} {a o e : Expr} {es : List Expr} {mo : EM} {mA : AM} {name : Str} {apos cpos pos : Pos} {id : String} {f : D → List D → Sto → Option (D × Sto)} {r : V → List V → Hp → VK → Prop}
theorem recv_ok {K : PySem.W.Frag} {ρ : List Addr} {S : Sto} {H : Hp} {x : D} {x' : V} {xs : List D} (sim : Sim K ρ S H) (rx : RD ρ H x x') (h : recvL x S = some xs) : tyV K "list" x' H := by
  unfold recvL at h
  split at h
  · obtain ⟨a, us, ha, sq, r2⟩ := sim.lstOf h
    cases rx with
    | ref hn =>
      rw [ha] at hn; cases hn
      exact .inl ⟨rfl, us, sq⟩
  · cases h
theorem p3_bm (slot : Slot "list" name id) (hty : typeOf (.builtin id) = pure (.type "method_descriptor")) (hm : MtM X id r) (h3 : Mt3 X.K f r) (ho : PE3 X o mo) (ha : PA3 X (e :: es) mA)
    (hbase : attributeBase o name X.env (eval o X.env) = eval o X.env := by rfl)
    (hfew : ((backTo cpos (starEach (e :: es) X.env)).all (fun x => !x.1) && (backToKw cpos (keywordEach [] X.env)).all (fun x => x.1.isSome)
      && decide ((e :: es).length + ([] : List Keyword).length + (if ([] : List Keyword).isEmpty then 0 else 1) < 30)) = true := by rfl)
    (hline : (apos.endLine == cpos.line) = true := by rfl) (hs : starEach (e :: es) X.env = (false, eval e X.env) :: starEach es X.env := by rfl) (hplain : (backTo cpos (starEach es X.env)).any (·.1) = false := by rfl) :
    PE3 X (.Call (.Attribute o name apos) (e :: es) [] cpos) (eMethL f mo mA) :=
  PE.imp (pe_bm PySem.F.plainAttrs_list slot hty hm ho ha hbase hfew hline hs hplain) fun σ H Q hx1_ => by
    obtain ⟨ρ, l, S, v, S', sim, ro, hq, p⟩ := hx1_
    obtain ⟨⟨x, S1⟩, h1, hq⟩ := bnd hq
    obtain ⟨xs, h2, hq⟩ := bnd hq
    obtain ⟨⟨ys, S2⟩, h4, hq⟩ := bnd hq
    exact ⟨ρ, l, S, x, S1, sim, ro, h1, fun ρ1 H1 x' e1 s1 r1 => ⟨recv_ok s1 r1 h2, ρ1, l, S1, ys, S2, s1, ro.mono e1, h4, fun ρ2 H2 vs e2 s2 r2 => h3 ρ2 S2 H2 x x' ys vs v S' Q s2 (r1.mono e2) r2 hq (p.ext (e1.trans e2))⟩⟩
theorem p3_append {m : EM} (ho : PE3 X o mo) (he : PE3 X e m)
    (hbase : attributeBase o "append" X.env (eval o X.env) = eval o X.env := by rfl)
    (hfew : ((backTo cpos (starEach [e] X.env)).all (fun x => !x.1) && (backToKw cpos (keywordEach [] X.env)).all (fun x => x.1.isSome)
      && decide ([e].length + ([] : List Keyword).length + (if ([] : List Keyword).isEmpty then 0 else 1) < 30)) = true := by rfl)
    (hline : (apos.endLine == cpos.line) = true := by rfl) (hs : starEach [e] X.env = (false, eval e X.env) :: starEach [] X.env := by rfl) :
    PE3 X (.Call (.Attribute o "append" apos) [e] [] cpos) (eMethL mAppend mo (aCons m aNil)) :=
  p3_bm PySem.F.slot_list_append PySem.F.type_list_append mt_append mt3_append ho (a3_cons he a3_nil hs) hbase hfew hline hs
end
section
variable {X : Cx} {a : Expr} {ma : EM} {pos p p2 : Pos}
theorem isI_kit {K : PySem.W.Frag} {T U : String} (hT : T ∈ ["NoneType", "bool", "int", "str", "tuple", "list", "dict"]) (hU : U ∈ ["bool", "int", "str", "tuple", "list"]) : PySem.W.kitOne K (.type T) (.type U) = some (isI T U) := by
  simp only [List.mem_cons, List.not_mem_nil, or_false] at hT hU
  rcases hT with rfl | rfl | rfl | rfl | rfl | rfl | rfl <;> rcases hU with rfl | rfl | rfl | rfl | rfl <;> rfl
theorem p3_isinst {U : String} {y : Str} (hg : Gl X "isinstance") (hm : X.mg "isinstance" = none) (hgy : Gl X y) (hmy : X.mg y = none) (hv : bootBuiltins y = some (.type U)) (hU : U ∈ ["bool", "int", "str", "tuple", "list"]) (ha : PE3 X a ma)
    (hn : y ≠ "__name__" := by decide) (hdb : (y == ("__debug__" : Str)) = false := by decide)
    (he : starEach (a :: [.Name y p2]) X.env = (false, eval a X.env) :: starEach [.Name y p2] X.env := by rfl) (he2 : starEach [.Name y p2] X.env = (false, eval (.Name y p2) X.env) :: starEach [] X.env := by rfl) (hpl : (backTo pos (starEach [.Name y p2] X.env)).any (·.1) = false := by rfl) :
    PE3 X (.Call (.Name "isinstance" p) [a, .Name y p2] [] pos) (eUn (fIsI U) ma) := by
  have hy : PE X (.Name y p2) (tC (.ty U)) := pe_bltn hgy hmy hv rfl hn hdb
  refine PE.imp (pe_callB (id := "isinstance") (r := fun xs H Q => ∃ x T, xs = [x, .ty U] ∧ TyOf X.K H x (.type T) ∧ T ∈ ["NoneType", "bool", "int", "str", "tuple", "list", "dict"] ∧ Q (.bl (isI T U)) H) ?_ hg hm (by decide +kernel) (pa_cons ha (pa_cons hy pa_nil he2) he) (by decide) (by decide) he hpl) ?_
  · intro pins s σ H xs us Q I r h
    obtain ⟨x, T, rfl, ty, hT, q⟩ := h
    obtain ⟨u1, u2, rfl, r1, r2⟩ := r.two
    cases r2
    exact isinst_ok I r1 ty (isI_kit hT hU) fun tk => ⟨.bl _, H, I.tok tk, rfl, q⟩
  · rintro σ H Q ⟨ρ, l, S, v, S', sim, ro, hq, p⟩
    obtain ⟨⟨x, S1⟩, h1, hq⟩ := bnd hq
    obtain ⟨T, h2, hq⟩ := bnd hq
    cases hq
    refine ⟨ρ, l, S, x, _, sim, ro, h1, fun ρ1 H1 x' e1 s1 r1 => ⟨x', T, rfl, ?_⟩⟩
    have fin := p ρ1 H1 _ e1 s1 (.bl (isI T U))
    cases r1 with
    | non => cases h2; exact ⟨.non, by decide, fin⟩
    | bl b => cases h2; exact ⟨.bl b, by decide, fin⟩
    | int b => cases h2; exact ⟨.int b, by decide, fin⟩
    | str b => cases h2; exact ⟨.str b, by decide, fin⟩
    | tup hh rr => cases h2; exact ⟨.tup hh, by decide, fin⟩
    | @ref n b hn =>
      unfold tyD at h2
      dsimp only at h2
      split at h2
      · rename_i ys ey
        cases h2
        obtain ⟨a', us, ha', hH, r2⟩ := s1.lst ey
        rw [ha'] at hn; cases hn
        exact ⟨.lst hH, by decide, fin⟩
      · rename_i kvs ey
        cases h2
        obtain ⟨us, hH, r2⟩ := s1.at' n b _ hn ey
        exact ⟨.dK hH, by decide, fin⟩
      · cases h2
    | fn b => cases h2
end
noncomputable def sp3 (K : PySem.W.Frag) (n : Nat) (f : FM) : Sp := fun vs H Q _ => vs.length = n ∧ ∃ ρ ds S v S', Sim K ρ S H ∧ RDs ρ H ds vs ∧ f ds S = some (v, S') ∧ Pv K ρ H v S' Q
section
variable {X : Cx} {a : Expr} {es : List Expr} {mA : AM} {pos p : Pos} {x : Str} {k : Nat} {f : Addr} {fd : FuncData} {ps : List Str} {m : FM}
theorem p3_call {n : Nat} (F : FnOk X.prog X.w X.K X.mg X.base CX0 k f fd ps (sp3 X.K n m)) (hr : Room k X.A) (hg : Gl X x) (hm : X.mg x = some (.ref f)) (hk : PySem.W.keepIn X.K (.ref f) = true) (hb : Binds X.K fd ps [])
    (ha : PA3 X (a :: es) mA) (hl : ∀ l S v S', mA l S = some (v, S') → v.length = n) (hdb : (x == ("__debug__" : Str)) = false := by decide) (he : starEach (a :: es) X.env = (false, eval a X.env) :: starEach es X.env := by rfl) (hpl : (backTo pos (starEach es X.env)).any (·.1) = false := by rfl) :
    PE3 X (.Call (.Name x p) (a :: es) [] pos) (eCall m mA) :=
  PE.imp (pe_call F hr hg hm hk hb .nil pass0 ha hdb he hpl) fun σ H Q hx3_ => by
    obtain ⟨ρ, l, S, v, S', sim, ro, hq, p⟩ := hx3_
    obtain ⟨⟨xs, S1⟩, h1, hq⟩ := bnd hq
    exact ⟨ρ, l, S, xs, S1, sim, ro, h1, fun ρ1 H1 vs e1 s1 r1 => ⟨by rw [List.append_nil, ← r1.length]; exact hl _ _ _ _ h1, ρ1, xs, S1, v, S', s1, by rw [List.append_nil]; exact r1, hq, p.ext e1⟩⟩
theorem len_nil : ∀ l S v S', aNil l S = some (v, S') → v.length = 0 := fun l S v S' h => by cases h; rfl
theorem len_cons {n : Nat} {m : EM} {mA : AM} (h : ∀ l S v S', mA l S = some (v, S') → v.length = n) : ∀ l S v S', aCons m mA l S = some (v, S') → v.length = n + 1 := fun l S v S' q => by
  obtain ⟨⟨x, S1⟩, h1, q⟩ := bnd q
  obtain ⟨⟨y, S2⟩, h2, q⟩ := bnd q
  cases q
  rw [List.length_cons, h _ _ _ _ h2]
end
end L3
namespace L3
open PySem PySem.Spec PyProof.Rows L2
noncomputable def sNext : SM := fun l S => some (.nx, l, S)
noncomputable def sBreak : SM := fun l S => some (.bk, l, S)
noncomputable def sCont : SM := fun l S => some (.ct, l, S)
noncomputable def sSeq (a b : SM) : SM := fun l S => (a l S).bind fun p => match p.1 with
  | .nx => b p.2.1 p.2.2
  | f => some (f, p.2)
noncomputable def sDrop (e : EM) : SM := fun l S => (e l S).bind fun p => some (.nx, l, p.2)
noncomputable def sRet (e : EM) : SM := fun l S => (e l S).bind fun p => some (.rt p.1, l, p.2)
noncomputable def sIf (c : TM) (a b : SM) : SM := fun l S => (c l S).bind fun p => if p.1 = true then a l p.2 else b l p.2
noncomputable def sAsg (e : EM) (g : GM) : SM := fun l S => (e l S).bind fun p => (g p.1 l p.2).bind fun q => some (.nx, q)
noncomputable def gName3 (i : Nat) : GM := fun d l S => some (l.set i (some d), S)
noncomputable def gNil3 : GsM
  | [], l, S => some (l, S)
  | _, _, _ => none
noncomputable def gCons3 (g : GM) (r : GsM) : GsM
  | x :: xs, l, S => (g x l S).bind fun p => r xs p.1 p.2
  | _, _, _ => none
noncomputable def gTup3 (n : Nat) (g : GsM) : GM
  | .tup xs, l, S => if xs.length = n then g xs l S else none
  | _, _, _ => none
noncomputable def setIx : D → D → D → Sto → Option Sto
  | .ref n, .int i, v, S => match S[n]? with
    | some (.lst xs) => (ixN xs.length i).bind fun j => some (S.set n (.lst (xs.set j v)))
    | _ => none
  | _, _, _, _ => none
noncomputable def gSub3 (o i : EM) : GM := fun v l S => (o l S).bind fun p => (i l p.2).bind fun q => (setIx p.1 q.1 v q.2).bind fun S' => some (l, S')
section
variable {X : Cx} {st : Stmt} {rest : List Stmt} {m n : SM} {e c : Expr} {me : EM} {pos : Pos}
theorem ss3_nil : PSs3 X [] sNext := PSs.imp pss_nil fun E σ H hx1_ => by
  obtain ⟨ρ, l, S, f, l', S', sim, ro, hm, p⟩ := hx1_
  cases hm
  exact p ρ H σ (Ext.refl ..) sim ro
theorem ss3_cons (h1 : PS3 X st m) (h2 : PSs3 X rest n) : PSs3 X (st :: rest) (sSeq m n) := PSs.imp (pss_cons h1 h2) fun E σ H hx2_ => by
  obtain ⟨ρ, l, S, f, l', S', sim, ro, hm, p⟩ := hx2_
  obtain ⟨⟨g, l1, S1⟩, q1, hm⟩ := bnd hm
  refine ⟨ρ, l, S, g, l1, S1, sim, ro, q1, fun ρ1 H1 σ1 e1 s1 r1 => ?_⟩
  cases g with
  | nx => exact ⟨ρ1, l1, S1, f, l', S', s1, r1, hm, fun ρ2 H2 σ2 e2 s2 r2 => p ρ2 H2 σ2 (e1.trans e2) s2 r2⟩
  | bk => cases hm; exact p ρ1 H1 σ1 e1 s1 r1
  | ct => cases hm; exact p ρ1 H1 σ1 e1 s1 r1
  | rt d => cases hm; exact p ρ1 H1 σ1 e1 s1 r1
theorem ss3_one (h1 : PS3 X st m) : PSs3 X [st] m := pss_one h1
theorem s3_expr (he : PE3 X e me) (hs : swapsWith e none pos.line X.env = pure false := by rfl) : PS3 X (.Expr e pos) (sDrop me) := PS.imp (ps_expr he hs) fun E σ H hx6_ => by
  obtain ⟨ρ, l, S, f, l', S', sim, ro, hm, p⟩ := hx6_
  obtain ⟨⟨x, S1⟩, q1, hm⟩ := bnd hm
  cases hm
  exact ⟨ρ, l, S, x, _, sim, ro, q1, fun ρ1 H1 x' e1 s1 _ => p ρ1 H1 σ e1 s1 (ro.mono e1)⟩
theorem s3_ret (he : PE3 X e me) : PS3 X (.Return (some e) pos) (sRet me) := PS.imp (ps_ret he) fun E σ H hx7_ => by
  obtain ⟨ρ, l, S, f, l', S', sim, ro, hm, p⟩ := hx7_
  obtain ⟨⟨x, S1⟩, q1, hm⟩ := bnd hm
  cases hm
  exact ⟨ρ, l, S, x, _, sim, ro, q1, fun ρ1 H1 x' e1 s1 r1 => p ρ1 H1 σ e1 s1 (ro.mono e1) x' r1⟩
theorem s3_if {c : Expr} {a b : List Stmt} {mc : TM} (hc : PT3 X c mc) (ha : PSs3 X a m) (hb : PSs3 X b n) : PS3 X (.If c a b pos) (sIf mc m n) := PS.imp (ps_if hc ha hb) fun E σ H hx9_ => by
  obtain ⟨ρ, l, S, f, l', S', sim, ro, hm, p⟩ := hx9_
  obtain ⟨⟨x, S1⟩, q1, hm⟩ := bnd hm
  refine ⟨ρ, l, S, x, S1, sim, ro, q1, fun ρ1 H1 e1 s1 => ?_⟩
  cases x with
  | true => exact iteT ⟨ρ1, l, S1, f, l', S', s1, ro.mono e1, hm, fun ρ2 H2 σ2 e2 s2 r2 => p ρ2 H2 σ2 (e1.trans e2) s2 r2⟩
  | false => exact iteF ⟨ρ1, l, S1, f, l', S', s1, ro.mono e1, hm, fun ρ2 H2 σ2 e2 s2 r2 => p ρ2 H2 σ2 (e1.trans e2) s2 r2⟩
variable {tgt o i : Expr} {g : GM} {gs : GsM} {ts' : List Expr} {mo mi : EM}
theorem g3_name (j : Nat) {x : Str} (hN : X.N.Nodup) (hi : X.N[j]? = some x := by rfl) (hx : Loc X.env.scope x := by first | exact Or.inl rfl | exact Or.inr rfl) (hf : X.fn x = true ∨ X.env.scope.names.lookup x = some .local := by first | exact .inl rfl | exact .inr rfl | assumption) : PG3 X (.Name x pos) (gName3 j) :=
  PG.imp (pg_name hN hi hx hf) fun v σ H Q hx11_ => by
    obtain ⟨ρ, l, S, d, l', S', sim, ro, rd, hm, p⟩ := hx11_
    cases hm
    exact p ρ H _ (Ext.refl ..) sim (ro.set j rd)
theorem gs3_nil : PGs3 X [] gNil3 := PGs.imp pgs_nil fun v σ H Q hx12_ => by
  obtain ⟨ρ, l, S, d, l', S', sim, ro, rd, hm, p⟩ := hx12_
  cases rd with
  | nil => cases hm; exact ⟨rfl, p ρ H _ (Ext.refl ..) sim ro⟩
  | cons _ _ => cases hm
theorem gs3_cons (h1 : PG3 X tgt g) (h2 : PGs3 X ts' gs) (hs : (assignEach (tgt :: ts') X.env).map (·.2) = assign tgt X.env :: (assignEach ts' X.env).map (·.2) := by rfl) : PGs3 X (tgt :: ts') (gCons3 g gs) := PGs.imp (pgs_cons h1 h2 hs) fun v σ H Q hx13_ => by
  obtain ⟨ρ, l, S, d, l', S', sim, ro, rd, hm, p⟩ := hx13_
  cases rd with
  | nil => cases hm
  | @cons x v' xs vs r1 r2 =>
    obtain ⟨⟨l1, S1⟩, q1, hm⟩ := bnd hm
    exact ⟨v', vs, rfl, ρ, l, S, x, l1, S1, sim, ro, r1, q1, fun ρ1 H1 σ1 e1 s1 ro1 => ⟨ρ1, l1, S1, xs, l', S', s1, ro1, r2.mono e1, hm, fun ρ2 H2 σ2 e2 s2 ro2 => p ρ2 H2 σ2 (e1.trans e2) s2 ro2⟩⟩
theorem g3_tup {es : List Expr} {k n : Nat} (hc : X.calm = true) (h : PGs3 X es gs) (hn : (assignEach es X.env).length = n := by rfl) (hst : (assignEach es X.env).findIdx? (·.1) = none := by rfl) : PG3 X (.Tuple es k pos) (gTup3 n gs) :=
  PG.imp (pg_tup hc h hn hst) fun v σ H Q hx14_ => by
    obtain ⟨ρ, l, S, d, l', S', sim, ro, rd, hm, p⟩ := hx14_
    cases rd with
    | @tup xs a vs ha r =>
      have hm : (if xs.length = n then gs xs l S else none) = some (l', S') := hm
      by_cases hl : xs.length = n
      · rw [if_pos hl] at hm
        exact ⟨a, vs, rfl, SqT.of ha, by rw [← r.length]; exact hl, ρ, l, S, xs, l', S', sim, ro, r, hm, p⟩
      · rw [if_neg hl] at hm; cases hm
    | _ => cases hm
theorem set3_ok {K : PySem.W.Frag} {ρ : List Addr} {S S' : Sto} {H : Hp} {x y z : D} {x' y' z' : V} {Q : Hp → Prop} (sim : Sim K ρ S H) (rx : RD ρ H x x') (ry : RD ρ H y y') (rz : RD ρ H z z') (h : setIx x y z S = some S') (q : ∀ H', Ext ρ H ρ H' → Sim K ρ S' H' → Q H') : rSetL x' y' z' H Q := by
  unfold setIx at h
  split at h
  · split at h
    · rename_i hx
      obtain ⟨j, hj, h⟩ := bnd h
      cases h
      cases ry
      obtain ⟨a, us, ha', hH, r3⟩ := sim.lst hx
      cases rx with
      | ref hn =>
        rw [ha'] at hn; cases hn
        exact ⟨a, us, _, j, rfl, rfl, hH, by rw [← r3.length]; exact hj, q _ (ext_upd ha' hH) (sim.set ha' hx hH (r3.set rz j))⟩
    · cases h
  · cases h
theorem g3_sub (ho : PE3 X o mo) (hi : PE3 X i mi)
    (ha : ∀ v, assign (.Subscript o i pos) X.env v = (do
      let ov ← holding [v] (eval o X.env)
      let iv ← holding [v, ov] (eval i X.env)
      standAt pos
      holding [v, ov, iv] (setItem ov iv v)
      release [v, ov, iv] []) := by intro _; rfl) : PG3 X (.Subscript o i pos) (gSub3 mo mi) :=
  PG.imp (pg_sub ho hi set_list ha) fun v σ H Q hx15_ => by
    obtain ⟨ρ, l, S, d, l', S', sim, ro, rd, hm, p⟩ := hx15_
    obtain ⟨⟨x, S1⟩, q1, hm⟩ := bnd hm
    obtain ⟨⟨y, S2⟩, q2, hm⟩ := bnd hm
    obtain ⟨S3, q3, hm⟩ := bnd hm
    cases hm
    exact ⟨ρ, l, S, x, S1, sim, ro, q1, fun ρ1 H1 x' e1 s1 r1 => ⟨ρ1, l, S1, y, S2, s1, ro.mono e1, q2, fun ρ2 H2 y' e2 s2 r2 => set3_ok s2 (r1.mono e2) r2 (rd.mono (e1.trans e2)) q3 fun H3 e3 s3 => p ρ2 H3 σ (e1.trans (e2.trans e3)) s3 (ro.mono (e1.trans (e2.trans e3)))⟩⟩
theorem s3_asg (he : PE3 X e me) (hg : PG3 X tgt g) (hs : swapsWithSole [tgt] e pos.line X.env = pure false := by rfl) (hw : swappedStores [tgt] e X.env = pure none := by rfl)
    (h1 : (assignEach [tgt] X.env).map (·.2) = [assign tgt X.env] := by rfl) : PS3 X (.Assign [tgt] e pos) (sAsg me g) := PS.imp (ps_asg he hg hs hw h1) fun E σ H hx16_ => by
  obtain ⟨ρ, l, S, f, l', S', sim, ro, hm, p⟩ := hx16_
  obtain ⟨⟨x, S1⟩, q1, hm⟩ := bnd hm
  obtain ⟨⟨l2, S2⟩, q2, hm⟩ := bnd hm
  cases hm
  exact ⟨ρ, l, S, x, S1, sim, ro, q1, fun ρ1 H1 x' e1 s1 r1 => ⟨ρ1, l, S1, x, _, _, s1, ro.mono e1, r1, q2, fun ρ2 H2 σ2 e2 s2 r2 => p ρ2 H2 σ2 (e1.trans e2) s2 r2⟩⟩
theorem s3_set (j : Nat) {x : Str} {pos' : Pos} (hN : X.N.Nodup) (he : PE3 X e me) (hi : X.N[j]? = some x := by rfl) (hx : Loc X.env.scope x := by first | exact Or.inl rfl | exact Or.inr rfl) (hs : swapsWith e (some (.Name x pos')) pos.line X.env = pure false := by rfl) (hf : X.fn x = true ∨ X.env.scope.names.lookup x = some .local := by first | exact .inl rfl | exact .inr rfl | assumption) :
    PS3 X (.Assign [.Name x pos'] e pos) (sAsg me (gName3 j)) := PS.imp (ps_set hN hi hx he hs hf) fun E σ H hx17_ => by
  obtain ⟨ρ, l, S, f, l', S', sim, ro, hm, p⟩ := hx17_
  obtain ⟨⟨x, S1⟩, q1, hm⟩ := bnd hm
  cases hm
  exact ⟨ρ, l, S, x, _, sim, ro, q1, fun ρ1 H1 x' e1 s1 r1 => p ρ1 H1 _ e1 s1 ((ro.mono e1).set j r1)⟩
end
noncomputable def forX (g : GM) (b : SM) : List D → SM
  | [], l, S => some (.nx, l, S)
  | x :: xs, l, S => (g x l S).bind fun p => (b p.1 p.2).bind fun q => match q.1 with
    | .nx => forX g b xs q.2.1 q.2.2
    | .ct => forX g b xs q.2.1 q.2.2
    | .bk => some (.nx, q.2)
    | .rt d => some (.rt d, q.2)
noncomputable def forL (g : GM) (b : SM) (n : Nat) : Nat → Nat → SM
  | 0, _, _, _ => none
  | k + 1, i, l, S => (lstOf S n).bind fun xs => match xs[i]? with
    | none => some (.nx, l, S)
    | some x => (g x l S).bind fun p => (b p.1 p.2).bind fun q => match q.1 with
      | .nx => forL g b n k (i + 1) q.2.1 q.2.2
      | .ct => forL g b n k (i + 1) q.2.1 q.2.2
      | .bk => some (.nx, q.2)
      | .rt d => some (.rt d, q.2)
noncomputable def sFor (e : EM) (g : GM) (b : SM) : SM := fun l S => (e l S).bind fun p => match p.1 with
  | .tup xs => forX g b xs l p.2
  | .ref n => (lstOf p.2 n).bind fun xs => forL g b n (xs.length + 1) 0 l p.2
  | _ => none
noncomputable def rngD (lo : Int) (n : Nat) : List D := (List.range n).map fun (i : Nat) => .int (lo + i)
noncomputable def rng1 (as : AM) : Lo → Sto → Option ((Int × Nat) × Sto) := fun l S => (as l S).bind fun p => match p.1 with
  | [.int j] => if -(2 ^ 62) ≤ j ∧ j < 2 ^ 62 then some ((0, j.toNat), p.2) else none
  | _ => none
noncomputable def sForR (r : Lo → Sto → Option ((Int × Nat) × Sto)) (g : GM) (b : SM) : SM := fun l S => (r l S).bind fun p => forX g b (rngD p.1.1 p.1.2) l p.2
section
variable {K : PySem.W.Frag} {g : GM} {b : SM} {E : Ends}
theorem turn3 {next : SM} {x : D} {v : V} {ρ : List Addr} {l : Lo} {S : Sto} {H : Hp} {σ : St} {f : Fl} {l' : Lo} {S' : Sto} (sim : Sim K ρ S H) (ro : RO ρ H l σ) (rx : RD ρ H x v)
    (hm : ((g x l S).bind fun p => (b p.1 p.2).bind fun q => match q.1 with
      | .nx => next q.2.1 q.2.2
      | .ct => next q.2.1 q.2.2
      | .bk => some (.nx, q.2)
      | .rt d => some (.rt d, q.2)) = some (f, l', S')) (p : ∀ ρ' H' σ', Ext ρ H ρ' H' → Sim K ρ' S' H' → RO ρ' H' l' σ' → ends ρ' H' E σ' f)
    {N : St → Hp → Prop} (hN : ∀ ρ1 H1 σ1 l1 S1, Ext ρ H ρ1 H1 → Sim K ρ1 S1 H1 → RO ρ1 H1 l1 σ1 → next l1 S1 = some (f, l', S') → N σ1 H1) :
    tg K g v σ H fun σ2 H2 => ts K b { E with nx := N, ct := N, bk := E.nx } σ2 H2 := by
  obtain ⟨⟨l1, S1⟩, q1, hm⟩ := bnd hm
  obtain ⟨⟨fl, l2, S2⟩, q2, hm⟩ := bnd hm
  refine ⟨ρ, l, S, x, l1, S1, sim, ro, rx, q1, fun ρ1 H1 σ1 e1 s1 r1 => ⟨ρ1, l1, S1, fl, l2, S2, s1, r1, q2, fun ρ2 H2 σ2 e2 s2 r2 => ?_⟩⟩
  cases fl with
  | nx => exact hN ρ2 H2 σ2 l2 S2 (e1.trans e2) s2 r2 hm
  | ct => exact hN ρ2 H2 σ2 l2 S2 (e1.trans e2) s2 r2 hm
  | bk => cases hm; exact p ρ2 H2 σ2 (e1.trans e2) s2 r2
  | rt d => cases hm; exact p ρ2 H2 σ2 (e1.trans e2) s2 r2
end
section
variable {X : Cx} {tgt iter : Expr} {body : List Stmt} {g : GM} {b : SM} {m : EM} {pos : Pos}
theorem loopX {K : PySem.W.Frag} {J : It} {vs : List V} {xs : List D} {ρ : List Addr} {l : Lo} {S : Sto} {H : Hp} {σ : St} {f : Fl} {l' : Lo} {S' : Sto} {E : Ends} (R : List Addr → Hp → Prop) (hR : ∀ ρ H ρ' H', Ext ρ H ρ' H' → R ρ H → R ρ' H')
    (hgo : ∀ (i : Nat) ρ H v, R ρ H → vs[i]? = some v → J.go i H) (hy : ∀ (i : Nat) ρ H v H', R ρ H → i < vs.length → J.yld i H v H' → H' = H ∧ vs[i]? = some v) (hst : ∀ ρ H, R ρ H → J.stop vs.length H)
    (hv : ∀ ρ H, R ρ H → RDs ρ H xs vs) (r0 : R ρ H)
    (sim : Sim K ρ S H) (ro : RO ρ H l σ) (hm : forX g b xs l S = some (f, l', S')) (p : ∀ ρ' H' σ', Ext ρ H ρ' H' → Sim K ρ' S' H' → RO ρ' H' l' σ' → ends ρ' H' E σ' f) :
    ∃ W : Nat → Nat → St → Hp → Prop, (∃ m, W 0 m σ H) ∧ ∀ i m σ H, W i m σ H →
      (J.stop i H ∧ E.nx σ H) ∨ (J.go i H ∧ ∃ N : St → Hp → Prop, (∀ σ' H', N σ' H' → ∃ m', m' < m ∧ W (i + 1) m' σ' H') ∧ ∀ x H', J.yld i H x H' → tg K g x σ H' fun σ2 H2 => ts K b { E with nx := N, ct := N, bk := E.nx } σ2 H2) := by
  refine ⟨fun i m σ1 H1 => m = xs.length - i ∧ i ≤ xs.length ∧ ∃ ρ1 l1 S1, Ext ρ H ρ1 H1 ∧ Sim K ρ1 S1 H1 ∧ RO ρ1 H1 l1 σ1 ∧ forX g b (xs.drop i) l1 S1 = some (f, l', S'), ⟨xs.length, by simp, Nat.zero_le _, ρ, l, S, Ext.refl .., sim, ro, hm⟩, ?_⟩
  rintro i m σ1 H1 ⟨rfl, hi, ρ1, l1, S1, e1, s1, ro1, hm1⟩
  have R1 := hR _ _ _ _ e1 r0
  have hlen := (hv _ _ r0).length
  by_cases hlt : i < xs.length
  · have hx : xs[i]? = some xs[i] := List.getElem?_eq_getElem hlt
    obtain ⟨v, hvi, rv⟩ := (hv _ _ R1).get hx
    rw [List.drop_eq_getElem_cons hlt] at hm1
    refine .inr ⟨hgo i ρ1 H1 v R1 hvi, _, fun σ' H' h => h, fun y H' hyl => ?_⟩
    obtain ⟨e, hy2⟩ := hy i ρ1 H1 y H' R1 (by omega) hyl
    subst e
    rw [hvi] at hy2; cases hy2
    refine turn3 (next := forX g b (xs.drop (i + 1))) s1 ro1 rv hm1 (fun ρ' H' σ' e' => p ρ' H' σ' (e1.trans e')) fun ρ2 H2 σ2 l2 S2 e2 s2 ro2 hm2 => ?_
    exact ⟨xs.length - (i + 1), by omega, rfl, hlt, ρ2, l2, S2, e1.trans e2, s2, ro2, hm2⟩
  · have hil : i = xs.length := by omega
    subst hil
    rw [List.drop_length] at hm1
    cases hm1
    exact .inl ⟨by rw [hlen]; exact hst _ _ R1, p ρ1 H1 σ1 e1 s1 ro1⟩
theorem rng_rd (ρ : List Addr) (H : Hp) (lo : Int) (n : Nat) : RDs ρ H (rngD lo n) ((List.range n).map fun (i : Nat) => V.int (lo + i)) := by
  unfold rngD
  generalize List.range n = l
  induction l with
  | nil => exact .nil
  | cons a r ih => exact .cons (.int _) ih
theorem itr_get {lo : Int} {n i : Nat} {v : V} (h : i < n) (hv : v = .int (lo + i)) : ((List.range n).map fun (i : Nat) => V.int (lo + i))[i]? = some v := by
  rw [List.getElem?_map, List.getElem?_range h, hv]; rfl
theorem PI.or {wi wj : TI} (h : PI X tgt iter wi) (h' : PI X tgt iter wj) : PI X tgt iter (fun σ H R => wi σ H R ∨ wj σ H R) := by
  intro pins s σ H R I q
  rcases q with q | q
  · exact h pins s σ H R I q
  · exact h' pins s σ H R I q
theorem loopL {K : PySem.W.Frag} {n : Nat} {a : Addr} {ρ : List Addr} {l : Lo} {S : Sto} {H : Hp} {σ : St} {f : Fl} {l' : Lo} {S' : Sto} {E : Ends} {k : Nat} (ha : ρ[n]? = some a)
    (sim : Sim K ρ S H) (ro : RO ρ H l σ) (hm : forL g b n k 0 l S = some (f, l', S')) (p : ∀ ρ' H' σ', Ext ρ H ρ' H' → Sim K ρ' S' H' → RO ρ' H' l' σ' → ends ρ' H' E σ' f) :
    ∃ W : Nat → Nat → St → Hp → Prop, (∃ m, W 0 m σ H) ∧ ∀ i m σ H, W i m σ H →
      ((Itl K a).stop i H ∧ E.nx σ H) ∨ ((Itl K a).go i H ∧ ∃ N : St → Hp → Prop, (∀ σ' H', N σ' H' → ∃ m', m' < m ∧ W (i + 1) m' σ' H') ∧ ∀ x H', (Itl K a).yld i H x H' → tg K g x σ H' fun σ2 H2 => ts K b { E with nx := N, ct := N, bk := E.nx } σ2 H2) := by
  refine ⟨fun i m σ1 H1 => ∃ ρ1 l1 S1, Ext ρ H ρ1 H1 ∧ Sim K ρ1 S1 H1 ∧ RO ρ1 H1 l1 σ1 ∧ forL g b n m i l1 S1 = some (f, l', S'), ⟨k, ρ, l, S, Ext.refl .., sim, ro, hm⟩, ?_⟩
  rintro i m σ1 H1 ⟨ρ1, l1, S1, e1, s1, ro1, hm1⟩
  cases m with
  | zero => cases hm1
  | succ m =>
    have ha1 := e1.pre n a ha
    unfold forL at hm1
    obtain ⟨xs, hx, hm1⟩ := bnd hm1
    obtain ⟨a', vs, ha', sq, rv⟩ := s1.lstOf hx
    rw [ha1] at ha'; cases ha'
    cases hi : xs[i]? with
    | none =>
      rw [hi] at hm1
      cases hm1
      have hl : xs.length ≤ i := List.getElem?_eq_none_iff.mp hi
      exact .inl ⟨⟨vs, sq, by rw [← rv.length]; exact hl⟩, p ρ1 H1 σ1 e1 s1 ro1⟩
    | some x =>
      rw [hi] at hm1
      obtain ⟨v, hvi, r⟩ := rv.get hi
      refine .inr ⟨⟨vs, v, sq, hvi⟩, _, fun σ' H' h => h, fun y H' hyl => ?_⟩
      obtain ⟨e, hy2⟩ := hyl
      subst e
      have hy3 := hy2 vs sq
      rw [hvi] at hy3; cases hy3
      refine turn3 (next := forL g b n m (i + 1)) s1 ro1 r hm1 (fun ρ' H' σ' e' => p ρ' H' σ' (e1.trans e')) fun ρ2 H2 σ2 l2 S2 e2 s2 ro2 hm2 => ?_
      exact ⟨m, Nat.lt_succ_self m, ρ2, l2, S2, e1.trans e2, s2, ro2, hm2⟩
theorem s3_for (hp : PassesOwn (model X.prog X.w) X.A X.env X.xe) (hc : X.calm = true) (hi : PE3 X iter m) (hg : PG3 X tgt g) (hb : PSs3 X body b)
    (hs : ∀ x, foldedSetIterable iter X.env x = pure x := by intro _; rfl) : PS3 X (.For tgt iter body [] pos) (sFor m g b) :=
  PS.imp (ps_for hp hc (PI.or (pi_list hi) (pi_tup hi)) hg hb hs) fun E σ H hx18_ => by
    obtain ⟨ρ, l, S, f, l', S', sim, ro, hm, p⟩ := hx18_
    obtain ⟨⟨x, S1⟩, q1, hm⟩ := bnd hm
    dsimp only at hm
    split at hm
    · rename_i xs
      refine .inr ⟨ρ, l, S, .tup xs, S1, sim, ro, q1, fun ρ1 H1 x' e1 s1 r1 => ?_⟩
      cases r1 with
      | @tup xs a vs ha r =>
        refine ⟨a, rfl, ⟨vs, SqT.of ha⟩, loopX (vs := vs) (fun ρ' H' => H' a = some (.tup vs) ∧ RDs ρ' H' xs vs) (fun ρ H ρ' H' e ⟨h1, h2⟩ => ⟨e.tup _ _ h1, h2.mono e⟩)
          (fun i ρ H v ⟨h1, _⟩ hv => ⟨vs, v, SqT.of h1, hv⟩) (fun i ρ H v H' ⟨h1, _⟩ _ hy => ⟨hy.1, hy.2 vs (SqT.of h1)⟩) (fun ρ H ⟨h1, _⟩ => ⟨vs, SqT.of h1, Nat.le_refl _⟩) (fun ρ H h => h.2) ⟨ha, r⟩ s1 (ro.mono e1) hm fun ρ' H' σ' e' => p ρ' H' σ' (e1.trans e')⟩
    · rename_i n
      obtain ⟨xs, hx, hm⟩ := bnd hm
      refine .inl ⟨ρ, l, S, .ref n, S1, sim, ro, q1, fun ρ1 H1 x' e1 s1 r1 => ?_⟩
      obtain ⟨a, vs, ha, sq, rv⟩ := s1.lstOf hx
      cases r1 with
      | ref hn =>
        rw [ha] at hn; cases hn
        exact ⟨a, rfl, ⟨vs, sq⟩, loopL ha s1 (ro.mono e1) hm (fun ρ' H' σ' e' => p ρ' H' σ' (e1.trans e'))⟩
    · cases hm
theorem s3_forR1 {a : Expr} {mA : AM} {p0 pos' : Pos} (hp : PassesOwn (model X.prog X.w) X.A X.env X.xe) (hc : X.calm = true) (hgl : Gl X "range") (hmg : X.mg "range" = none) (ha : PA3 X [a] mA) (hg : PG3 X tgt g) (hb : PSs3 X body b)
    (hs : ∀ x, foldedSetIterable (.Call (.Name "range" p0) [a] [] pos') X.env x = pure x := by intro _; rfl) (hst : starEach [a] X.env = [(false, eval a X.env)] := by rfl) : PS3 X (.For tgt (.Call (.Name "range" p0) [a] [] pos') body [] pos) (sForR (rng1 mA) g b) :=
  PS.imp (ps_for hp hc (pi_range1 hgl hmg ha hst) hg hb hs) fun E σ H hx19_ => by
    obtain ⟨ρ, l, S, f, l', S', sim, ro, hm, p⟩ := hx19_
    obtain ⟨⟨⟨lo, n⟩, S1⟩, q1, hm⟩ := bnd hm
    obtain ⟨⟨xs, S2⟩, q2, q1⟩ := bnd q1
    dsimp only at q1 hm
    split at q1
    · rename_i j
      obtain ⟨hz, e⟩ := ite_some q1
      cases e
      refine ⟨ρ, l, S, [.int j], S1, sim, ro, q2, fun ρ1 H1 vs e1 s1 r1 => ?_⟩
      obtain ⟨v, rfl, rv⟩ := r1.one
      cases rv
      refine ⟨j, rfl, hz.1, hz.2, loopX (vs := (List.range j.toNat).map fun (i : Nat) => V.int (0 + i)) (fun _ _ => True) (fun _ _ _ _ _ h => h) (fun i ρ H v _ hv => ?_) (fun i ρ H v H' _ hl hy => ⟨hy.1, ?_⟩) (fun ρ H _ => ?_) (fun ρ H _ => rng_rd ρ H 0 j.toNat) trivial s1 (ro.mono e1) hm fun ρ' H' σ' e' => p ρ' H' σ' (e1.trans e')⟩
      · have := (List.getElem?_eq_some_iff.mp hv).1
        simp at this
        show i < j.toNat
        omega
      · obtain ⟨_, hy⟩ := hy
        exact itr_get (by simpa using hl) hy
      · show j.toNat ≤ _
        simp
    · cases q1
end
noncomputable def runB (n : Nat) (b : SM) : FM := fun ds S => (b (ds.map some ++ List.replicate (n - ds.length) none) S).bind fun p => match p.1 with
  | .rt d => some (d, p.2.2)
  | .nx => some (.non, p.2.2)
  | _ => none
theorem RDs.locals {ρ : List Addr} {H : Hp} {ds : List D} {vs : List V} (r : RDs ρ H ds vs) (N : List Str) : RO ρ H (ds.map some ++ List.replicate (N.length - ds.length) none) (L2.start N vs) := by
  unfold L2.start
  rw [← r.length]
  refine ⟨by simp [r.length], fun i d h => ?_⟩
  by_cases hl : i < ds.length
  · rw [List.getElem?_append_left (by simpa using hl), List.getElem?_map] at h
    cases e : ds[i]? with
    | none => rw [e] at h; cases h
    | some d' =>
      rw [e] at h
      have h' : some (some d') = some (some d) := h
      cases h'
      obtain ⟨v, h1, h2⟩ := r.get e
      exact ⟨v, by rw [List.getElem?_append_left (by rw [List.length_map, ← r.length]; exact hl), List.getElem?_map, h1]; rfl, h2⟩
  · rw [List.getElem?_append_right (by simpa using hl), List.getElem?_replicate] at h
    split at h
    · cases h
    · cases h
theorem fun3 {P : Program} {w : World} {K : PySem.W.Frag} {mg : Str → Option Value} {base : Heap} {x qual : Str} {st : Stmt} {f : Addr} {fd : FuncData} {N ps : List Str} {k n : Nat} {b : SM} (F : Fun K x qual st f fd) (S : FnScope N ps (defScope st)) (hn : ps.length = n)
    (hbody : ∀ (cdv : Value), PySem.W.codeIn K cdv qual = true → ∀ (A : Around) (outer : List Env) (s : Shared) (H : Hp) (E : XK), Room k (A.deeper (envOfC qual (defScope st) s.heap.objs.size f cdv)) →
      PSs3 (cxOf CX0 P w K mg base N qual (defScope st) f cdv A outer s H E).nox (defBody st) b) : FnOk P w K mg base CX0 (k + 1) f fd ps (sp3 K n (runB N.length b)) := by
  obtain ⟨oc, od, kV, doc, pm, an, cdv, ct, osl, rfl, lk, hcd⟩ := F.ex
  refine fn_of lk hcd S (fun vs H Q E h => by rw [h.1, hn]) fun A outer s H vs Q E hr h => ?_
  obtain ⟨hl, ρ, ds, S0, v, S', sim, rd, hm, p⟩ := h
  refine ⟨_, PSs.nox (hbody cdv hcd A outer s H E hr), ?_⟩
  obtain ⟨⟨fl, l', S1⟩, q, hm⟩ := bnd hm
  refine ⟨ρ, _, S0, fl, l', S1, sim, rd.locals N, q, fun ρ' H' σ' e' s' r' => ?_⟩
  cases fl with
  | nx => cases hm; exact p ρ' H' _ e' s' .non
  | rt d => cases hm; exact fun v' rv => p ρ' H' v' e' s' rv
  | bk => cases hm
  | ct => cases hm
end L3
namespace L3
open PySem PySem.Spec PyProof.Rows L2
noncomputable def clOf (env : Env) : List (Str × NameKind) → List (Str × Addr) → List (Str × Addr)
  | [], cs => cs
  | (n, k) :: r, cs => if k == .free then (match env.cells.lookup n with | some c => clOf env r ((n, c) :: cs) | none => clOf env r cs) else clOf env r cs
theorem closure_eq (env : Env) : ∀ (names : List (Str × NameKind)) (cs : List (Str × Addr)), (∀ x ∈ names, x.2 = .free → ∃ c, env.cells.lookup x.1 = some c) →
    (forIn names cs (fun x r => if (x.2 == NameKind.free) = true then do let c ← cellOf env x.1; pure (ForInStep.yield ((x.1, c) :: r)) else pure (ForInStep.yield r)) : Sem (List (Str × Addr))) = pure (clOf env names cs)
  | [], cs, _ => rfl
  | (n, k) :: r, cs, h => by
    have ih := fun cs => closure_eq env r cs fun x hx => h x (List.mem_cons_of_mem _ hx)
    rw [List.forIn_cons]
    by_cases hk : k = .free
    · subst hk
      obtain ⟨c, hc⟩ := h (n, .free) List.mem_cons_self rfl
      simp only [beq_self_eq_true, if_true, cellOf, hc, clOf, pure_bind, bind_assoc]
      exact ih _
    · have hb : (k == NameKind.free) = false := by simpa using hk
      simp only [hb, Bool.false_eq_true, if_false, clOf, pure_bind]
      exact ih _
theorem closureFor_eq (scope : Scope) (env : Env) (h : ∀ x ∈ scope.names, x.2 = .free → ∃ c, env.cells.lookup x.1 = some c) : closureFor scope env = pure (clOf env scope.names []) := by
  have e := closure_eq env scope.names [] h
  unfold closureFor
  show (forIn scope.names ([] : List (Str × Addr)) (fun (x : Str × NameKind) (r : List (Str × Addr)) => if (x.2 == NameKind.free) = true then do let c ← cellOf env x.1; pure (ForInStep.yield ((x.1, c) :: r)) else pure (ForInStep.yield r)) >>= fun cs => pure cs) = _
  rw [e, pure_bind]
theorem clOf_sub (env : Env) : ∀ (names : List (Str × NameKind)) (cs : List (Str × Addr)), (∀ x c, cs.lookup x = some c → env.cells.lookup x = some c) → ∀ x c, (clOf env names cs).lookup x = some c → env.cells.lookup x = some c
  | [], cs, h, x, c, q => h x c q
  | (n, k) :: r, cs, h, x, c, q => by
    unfold clOf at q
    split at q
    · split at q
      · rename_i c' e
        refine clOf_sub env r _ (fun y d hy => ?_) x c q
        rw [List.lookup_cons] at hy
        split at hy
        · rename_i hb
          have : y = n := by simpa using hb
          cases hy
          rw [this]; exact e
        · exact h y d hy
      · exact clOf_sub env r cs h x c q
    · exact clOf_sub env r cs h x c q
theorem clOf_has (env : Env) : ∀ (names : List (Str × NameKind)) (cs : List (Str × Addr)) (x : Str), ((x, NameKind.free) ∈ names ∨ ∃ c, cs.lookup x = some c) → (∃ c, env.cells.lookup x = some c) → ∃ c, (clOf env names cs).lookup x = some c
  | [], cs, x, h, _ => by
    rcases h with h | h
    · cases h
    · exact h
  | (n, k) :: r, cs, x, h, hx => by
    unfold clOf
    by_cases hk : (k == NameKind.free) = true
    · rw [if_pos hk]
      split
      · rename_i c' e
        refine clOf_has env r _ x ?_ hx
        by_cases hxn : x = n
        · exact .inr ⟨c', by rw [hxn, List.lookup_cons]; simp⟩
        · rcases h with h | ⟨c, h⟩
          · rcases List.mem_cons.mp h with h | h
            · cases h; exact absurd rfl hxn
            · exact .inl h
          · exact .inr ⟨c, by
              rw [List.lookup_cons]
              have : (x == n) = false := by simpa using hxn
              rw [this]; exact h⟩
      · rename_i e
        refine clOf_has env r _ x ?_ hx
        rcases h with h | h
        · rcases List.mem_cons.mp h with h | h
          · cases h
            obtain ⟨c, hc⟩ := hx
            rw [hc] at e; cases e
          · exact .inl h
        · exact .inr h
    · rw [if_neg hk]
      refine clOf_has env r _ x ?_ hx
      rcases h with h | h
      · rcases List.mem_cons.mp h with h | h
        · cases h; exact absurd rfl hk
        · exact .inl h
      · exact .inr h
section
variable {prog : Program} {w : World} {A : Around} {R : Result → Shared → Prop} {s : Shared}
theorem compLoopG {elt target iter : Expr} {ifs : List Expr} {scope : Scope} {pos : Pos} {it acc : Value} {env : Env} (I : Nat → Shared → Prop)
    (turn : ∀ n s, I n s → wpAny (model prog w) A (pyNext it) (fun r s₁ => match r with
      | none => R (.ok .next) s₁
      | some v => wpAny (model prog w) A (letOwnedTupleGo target it v) (fun _ s₁' => wpAny (model prog w) A (assign target env v) (fun _ s₂ =>
          wpAny (model prog w) A (forIn ifs true fun c r => if r = true then do let ok ← isTrue c env (eval c env); pure (ForInStep.yield ok) else pure (ForInStep.yield r)) (fun ok s₃ =>
            if ok = true then wpAny (model prog w) A (eval elt env) (fun x s₄ =>
              wpAny (model prog w) A (call (.builtin "list.append") [acc, x]) (fun _ s₅ => ∃ m, m < n ∧ I m s₅) (notedBy (model prog w) A env fun e s' => R (.error e) s') s₄) (notedBy (model prog w) A env fun e s' => R (.error e) s') s₃
            else ∃ m, m < n ∧ I m s₃) (notedBy (model prog w) A env fun e s' => R (.error e) s') s₂) (notedBy (model prog w) A env fun e s' => R (.error e) s') s₁') (notedBy (model prog w) A env fun e s' => R (.error e) s') s₁) (notedBy (model prog w) A env fun e s' => R (.error e) s') s)
    (n : Nat) (h : I n s) :
    codeAny (model prog w) A (.compLoop (.ListComp elt [⟨target, iter, ifs, 0⟩] scope pos) 0 it acc env) R s := by
  refine codeAny_loop rfl I (fun n s hI => ?_) n h
  show wpAny _ A ((compTurn (.ListComp elt [⟨target, iter, ifs, 0⟩] scope pos) 0 it acc env).onRaise (fun x => do noteFrame x env; theTreesLotGoes x)) _ _ s
  refine wpAny_noted ?_
  rw [compTurn_list]
  refine wpAny_bind (wpAny_standAt (wpAny_bind (wpAny_mono (turn n s hI) (fun r s₁ h₁ => ?_) fun _ _ h' => h')))
  cases r with
  | none => exact wpAny_pure h₁
  | some v =>
    refine wpAny_bind (wpAny_mono h₁ (fun _ s₁' h₁ => ?_) fun _ _ h' => h')
    refine wpAny_bind (wpAny_mono h₁ (fun _ s₂ h₂ => wpAny_bind (wpAny_mono h₂ (fun ok s₃ h₃ => ?_) fun _ _ h' => h')) fun _ _ h' => h')
    cases ok with
    | false => exact wpAny_pure ⟨rfl, h₃⟩
    | true =>
      exact wpAny_bind (wpAny_bind (wpAny_mono h₃ (fun x s₄ h₄ => wpAny_bind (wpAny_mono h₄ (fun _ s₅ h₅ => wpAny_pure (wpAny_pure ⟨rfl, h₅⟩)) fun _ _ h' => h')) fun _ _ h' => h'))
end
noncomputable def PTs (X : Cx) (ifs : List Expr) (t : TT) : Prop := ∀ (pins : List (Addr × Obj)) (s : Shared) (σ : St) (H : Hp) (Q : Bool → Hp → Prop), Inv X pins σ H s → t σ H Q →
  wpAny (model X.prog X.w) X.A (forIn ifs true fun c r => if r = true then do let ok ← isTrue c X.env (eval c X.env); pure (ForInStep.yield ok) else pure (ForInStep.yield r)) (TP X pins σ Q) X.xe s
theorem pts_nil {X : Cx} : PTs X [] (fun _ H Q => Q true H) := fun _ _ _ H _ I h => wpAny_tests_nil ⟨H, I, h⟩
theorem pts_one {X : Cx} {c : Expr} {t : TT} (h : PT X c t) : PTs X [c] t := fun pins s σ H Q I q => wpAny_tests_one (h pins s σ H Q I q)
noncomputable def tComp (K : PySem.W.Frag) (wi : TI) (src : St → St) (g : TG) (tts : TT) (t : TE) : TE := fun σ H Q => wi σ H fun J H1 => ∀ D, H1 D = none → K.lookup D = none → ∃ W : Nat → Nat → St → Hp → Prop,
  (∃ m, W 0 m (src σ) (upd H1 D (.lst []))) ∧ ∀ i m σ' H', W i m σ' H' →
    (J.stop i H' ∧ Q (.ref D) H') ∨ (J.go i H' ∧ ∃ N : St → Hp → Prop, (∀ σ' H', N σ' H' → ∃ m', m' < m ∧ W (i + 1) m' σ' H') ∧
      ∀ x H'', J.yld i H' x H'' → g x σ' H'' fun σ2 H2 => tts σ2 H2 fun b H3 => if b = true then t σ2 H3 (fun v H4 => ∃ ys, H4 D = some (.lst ys) ∧ ys.length < sizeLine ∧ N σ2 (upd H4 D (.lst (ys ++ [v])))) else N σ2 H3)
theorem relabel_lookup {scope : Scope} {env : Env} : ∀ {names : List (Str × NameKind)} {x : Str}, names.lookup x = some .free →
    ((names.map fun (n, k) => if (k == NameKind.free && env.scope.kind == .function && env.kindOf n == some .cell) then (n, NameKind.cell) else (n, k)).lookup x = some .cell ∨
     (names.map fun (n, k) => if (k == NameKind.free && env.scope.kind == .function && env.kindOf n == some .cell) then (n, NameKind.cell) else (n, k)).lookup x = some .free)
  | [], x, h => by simp at h
  | (n, k) :: r, x, h => by
    have ih := @relabel_lookup scope env r x
    show List.lookup x ((if (k == NameKind.free && env.scope.kind == .function && env.kindOf n == some .cell) = true then (n, NameKind.cell) else (n, k)) :: _) = _ ∨ List.lookup x ((if (k == NameKind.free && env.scope.kind == .function && env.kindOf n == some .cell) = true then (n, NameKind.cell) else (n, k)) :: _) = _
    cases hx : x == n with
    | true =>
      simp only [List.lookup_cons, hx] at h
      cases h
      by_cases hc : (NameKind.free == NameKind.free && env.scope.kind == .function && env.kindOf n == some .cell) = true
      · rw [if_pos hc]; simp [List.lookup_cons, hx]
      · rw [if_neg hc]; simp [List.lookup_cons, hx]
    | false =>
      simp only [List.lookup_cons, hx] at h
      by_cases hc : (k == NameKind.free && env.scope.kind == .function && env.kindOf n == some .cell) = true
      · rw [if_pos hc]; simp only [List.lookup_cons, hx]; exact ih h
      · rw [if_neg hc]; simp only [List.lookup_cons, hx]; exact ih h
structure CompSc (X : Cx) (N' : List Str) (scope : Scope) (src : St → St) : Prop where
  kind : scope.kind = .function
  nocell : ∀ y ∈ scope.names, y.2 ≠ .cell
  names : ∀ y ∈ scope.names, y.2 = .local → scope.names.lookup y.1 = some .local
  free : ∀ y ∈ scope.names, y.2 = .free → X.env.kindOf y.1 = some .cell ∨ X.env.kindOf y.1 = some .free
  rel : ∀ y, (relabel scope X.env).names.lookup y = some .cell ∨ (relabel scope X.env).names.lookup y = some .free → (y, NameKind.free) ∈ scope.names
  len : ∀ σ, (src σ).length = N'.length
  src : ∀ σ (i : Nat) v x, (src σ)[i]? = some (some v) → N'[i]? = some x → ∃ j : Nat, X.N[j]? = some x ∧ σ[j]? = some (some v) ∧ scope.names.lookup x = some .free
end L3
namespace L3
open PySem PySem.Spec PyProof.Rows L2
section
variable {K : PySem.W.Frag} {ρ ρ' : List Addr} {H H' : Hp} {S : Sto}
theorem Sim.notin {a : Addr} (s : Sim K ρ S H) (h1 : H a = none) (h2 : K.lookup a = none) : ∀ n : Nat, ρ[n]? ≠ some a := fun n hn => by
  have hl : n < S.length := by rw [← s.len]; exact (List.getElem?_eq_some_iff.mp hn).1
  have q := s.at' n a _ hn (List.getElem?_eq_getElem hl)
  cases e : S[n] with
  | lst xs => rw [e] at q; obtain ⟨vs, z, _⟩ := q; rw [h1] at z; cases z
  | flst xs =>
    rw [e] at q
    obtain ⟨vs, z, _⟩ := q
    rcases z with ⟨o, z⟩ | ⟨o, _, _, z, _⟩
    · rw [h1] at z; cases z
    · rw [h2] at z; cases z
  | iset g m => rw [e] at q; have q : H a = _ := q; rw [h1] at q; cases q
  | dct kvs => rw [e] at q; obtain ⟨vs, z, _⟩ := q; rw [h1] at z; cases z
  | tdct kvs => rw [e] at q; obtain ⟨vs, z, _⟩ := q; rw [h1] at z; cases z
  | fdct kvs => rw [e] at q; obtain ⟨o, vs, z, _⟩ := q; rw [h1] at z; cases z
  | ftdct kvs => rw [e] at q; obtain ⟨o, vs, z, _⟩ := q; rw [h1] at z; cases z
  | tset ks => rw [e] at q; obtain ⟨xs, _, z, _⟩ := q; rw [h1] at z; cases z
  | fnc x => rw [e] at q; obtain ⟨_, o, z⟩ := q; rw [h2] at z; cases z
  | exc c => rw [e] at q; obtain ⟨C, _, z⟩ := q; rw [h1] at z; cases z
  | tab x => rw [e] at q; obtain ⟨_, _, _, _, z, _⟩ := q; rw [h1] at z; cases z
  | lam g caps => rw [e] at q; obtain ⟨_, _, _, _, z, _⟩ := q; rw [h1] at z; cases z
  | dead => rw [e] at q; obtain ⟨_, z⟩ := q; rw [h1] at z; cases z
theorem Sim.adopt {a : Addr} {xs : List D} {vs : List V} (s : Sim K ρ S H) (ha : H a = some (.lst vs)) (hn : ∀ n : Nat, ρ[n]? ≠ some a) (r : RDs ρ H xs vs) : Sim K (ρ ++ [a]) (S ++ [.lst xs]) H := by
  refine ⟨by simp [s.len], fun i j b x1 x2 h1 h2 h3 h4 m1 m2 => ?_, fun n b o h1 h2 => ?_⟩
  · rcases get_push h1 with g1 | ⟨e1, f1⟩ <;> rcases get_push h2 with g2 | ⟨e2, f2⟩
    · rcases get_push h3 with h3 | ⟨e3, _⟩ <;> rcases get_push h4 with h4 | ⟨e4, _⟩
      · exact s.nd i j b _ _ g1 g2 h3 h4 m1 m2
      · have := (List.getElem?_eq_some_iff.mp g2).1; have := s.len; omega
      · have := (List.getElem?_eq_some_iff.mp g1).1; have := s.len; omega
      · omega
    · subst f2; exact absurd g1 (hn i)
    · subst f1; exact absurd g2 (hn j)
    · omega
  · rcases get_push h1 with h1 | ⟨e1, f1⟩
    · rcases get_push h2 with h2 | ⟨e2, f2⟩
      · exact (s.at' n b o h1 h2).more ext0_push
      · have := (List.getElem?_eq_some_iff.mp h1).1; have := s.len; omega
    · subst f1
      rcases get_push h2 with h2 | ⟨e2, f2⟩
      · have := (List.getElem?_eq_some_iff.mp h2).1; have := s.len; omega
      · subst f2
        exact ⟨vs, ha, r.mono0 ext0_push⟩
theorem Sim.beside {a : Addr} {ys : List V} {u : HO} (s : Sim K ρ S H) (ha : H a = some (.lst ys)) (hn : ∀ n : Nat, ρ[n]? ≠ some a) : Sim K ρ S (upd H a u) :=
  ⟨s.len, s.nd, fun n b o h1 h2 => (s.at' n b o h1 h2).written ha fun _ z => hn n (by rw [h1, z])⟩
theorem Ext.beside {a : Addr} {ys : List V} {u : HO} {ρ0 : List Addr} {H0 : Hp} (e : Ext ρ0 H0 ρ H) (h0 : H0 a = none) (ha : H a = some (.lst ys)) : Ext ρ0 H0 ρ (upd H a u) :=
  ⟨⟨e.pre, fun b vs h => by rw [upd_ne (ne_of (e.tup b vs h) ha (by intro z; cases z))]; exact e.tup b vs h, fun b o vs h => by rw [upd_ne (ne_of (e.frz b o vs h) ha (by intro z; cases z))]; exact e.frz b o vs h⟩, fun b vs h n => ⟨by rw [upd_ne (ne_of_none h h0)]; exact (e.out b vs h n).1, (e.out b vs h n).2⟩⟩
theorem Ext.adopt {a : Addr} {ρ0 : List Addr} {H0 : Hp} (e : Ext ρ0 H0 ρ H) (h0 : H0 a = none) : Ext ρ0 H0 (ρ ++ [a]) H :=
  ⟨⟨fun n b h => (ext0_push (H := H)).pre n b (e.pre n b h), e.tup, e.frz⟩, fun b vs h n => ⟨(e.out b vs h n).1, fun i hi => by
    rcases get_push hi with hi | ⟨_, z⟩
    · exact (e.out b vs h n).2 i hi
    · rw [z, h0] at h; cases h⟩⟩
end
noncomputable abbrev ItM := Nat → Sto → Option (Option D)
noncomputable abbrev IM := Lo → Sto → Option (ItM × Nat × Sto)
noncomputable def ItOk (K : PySem.W.Frag) (ρ : List Addr) (H : Hp) (it : ItM) (J : It) : Prop := ∀ (i : Nat) ρ' S' H', Ext ρ H ρ' H' → Sim K ρ' S' H' →
  (it i S' = some none → J.stop i H') ∧ ∀ x, it i S' = some (some x) → J.go i H' ∧ ∀ y H'', J.yld i H' y H'' → H'' = H' ∧ RD ρ' H' x y
inductive ti (K : PySem.W.Frag) (im : IM) (σ : St) (H : Hp) (R : It → Hp → Prop) : Prop
  | mk (ρ : _) (l : _) (S : _) (it : _) (k : _) (S' : _) (_ : Sim K ρ S H) (_ : RO ρ H l σ) (_ : im l S = some (it, k, S')) (_ : ∀ ρ' H' J, Ext ρ H ρ' H' → Sim K ρ' S' H' → ItOk K ρ' H' it J → R J H')
noncomputable def PI3 (X : Cx) (tgt iter : Expr) (im : IM) : Prop := PI X tgt iter (ti X.K im)
theorem PI.imp {X : Cx} {tgt iter : Expr} {t u : TI} (h : PI X tgt iter t) (i : ∀ σ H R, u σ H R → t σ H R) : PI X tgt iter u := fun pins s σ H Q I q => h pins s σ H Q I (i _ _ _ q)
noncomputable def itX (xs : List D) : ItM := fun i _ => some xs[i]?
noncomputable def itL (n : Nat) : ItM := fun i S => (lstOf S n).bind fun xs => some xs[i]?
noncomputable def iVal (e : EM) : IM := fun l S => (e l S).bind fun p => match p.1 with
  | .tup xs => some (itX xs, xs.length + 1, p.2)
  | .ref n => (lstOf p.2 n).bind fun xs => some (itL n, xs.length + 1, p.2)
  | _ => none
noncomputable def iRng (r : Lo → Sto → Option ((Int × Nat) × Sto)) : IM := fun l S => (r l S).bind fun p => some (itX (rngD p.1.1 p.1.2), p.1.2 + 1, p.2)
section
variable {K : PySem.W.Frag}
theorem itok_tup {ρ : List Addr} {H : Hp} {a : Addr} {xs : List D} {vs : List V} (ha : H a = some (.tup vs)) (r : RDs ρ H xs vs) : ItOk K ρ H (itX xs) (Itt K a) := by
  intro i ρ' S' H' e s
  have ha' := SqT.of (K := K) (e.tup _ _ ha)
  have r' := r.mono e
  refine ⟨fun h => ?_, fun x h => ?_⟩
  · have h : xs[i]? = none := Option.some.inj h
    exact ⟨vs, ha', by rw [← r.length]; exact List.getElem?_eq_none_iff.mp h⟩
  · have h : xs[i]? = some x := Option.some.inj h
    obtain ⟨v, hv, rv⟩ := r'.get h
    refine ⟨⟨vs, v, ha', hv⟩, fun y H'' ⟨e1, e2⟩ => ⟨e1, ?_⟩⟩
    have := e2 vs ha'
    rw [hv] at this; cases this
    exact rv
theorem itok_lst {ρ : List Addr} {H : Hp} {a : Addr} {n : Nat} (ha : ρ[n]? = some a) : ItOk K ρ H (itL n) (Itl K a) := by
  intro i ρ' S' H' e s
  have ha' := e.pre _ _ ha
  refine ⟨fun h => ?_, fun x h => ?_⟩
  · obtain ⟨xs, h1, h⟩ := bnd h
    have h : xs[i]? = none := Option.some.inj h
    obtain ⟨b, vs, hb, sq, r⟩ := s.lstOf h1
    rw [ha'] at hb; cases hb
    exact ⟨vs, sq, by rw [← r.length]; exact List.getElem?_eq_none_iff.mp h⟩
  · obtain ⟨xs, h1, h⟩ := bnd h
    have h : xs[i]? = some x := Option.some.inj h
    obtain ⟨b, vs, hb, sq, r⟩ := s.lstOf h1
    rw [ha'] at hb; cases hb
    obtain ⟨v, hv, rv⟩ := r.get h
    refine ⟨⟨vs, v, sq, hv⟩, fun y H'' ⟨e1, e2⟩ => ⟨e1, ?_⟩⟩
    have := e2 vs sq
    rw [hv] at this; cases this
    exact rv
theorem itok_rng {ρ : List Addr} {H : Hp} {lo : Int} {n : Nat} : ItOk K ρ H (itX (rngD lo n)) (Itr lo n) := by
  intro i ρ' S' H' e s
  refine ⟨fun h => ?_, fun x h => ?_⟩
  · have h : (rngD lo n)[i]? = none := Option.some.inj h
    have := List.getElem?_eq_none_iff.mp h
    simp [rngD] at this
    exact this
  · have h : (rngD lo n)[i]? = some x := Option.some.inj h
    have hl := (List.getElem?_eq_some_iff.mp h).1
    simp only [rngD, List.length_map, List.length_range] at hl
    refine ⟨hl, fun y H'' ⟨e1, e2⟩ => ⟨e1, ?_⟩⟩
    unfold rngD at h
    rw [List.getElem?_map, List.getElem?_range hl] at h
    cases h
    rw [e2]
    exact .int _
end
section
variable {X : Cx} {tgt iter : Expr} {m : EM} {mA : AM} {p0 pos' : Pos} {a a2 : Expr}
theorem i3_val (hi : PE3 X iter m) : PI3 X tgt iter (iVal m) := PI.imp (PI.or (pi_list hi) (pi_tup hi)) fun σ H R hx1_ => by
  obtain ⟨ρ, l, S, it, k, S', sim, ro, hm, p⟩ := hx1_
  obtain ⟨⟨x, S1⟩, q1, hm⟩ := bnd hm
  dsimp only at hm
  split at hm
  · rename_i xs
    cases hm
    refine .inr ⟨ρ, l, S, .tup xs, _, sim, ro, q1, fun ρ1 H1 x' e1 s1 r1 => ?_⟩
    cases r1 with
    | @tup xs a vs ha r => exact ⟨a, rfl, ⟨vs, SqT.of ha⟩, p ρ1 H1 _ e1 s1 (itok_tup ha r)⟩
  · rename_i n
    obtain ⟨xs, hx, hm⟩ := bnd hm
    cases hm
    refine .inl ⟨ρ, l, S, .ref n, _, sim, ro, q1, fun ρ1 H1 x' e1 s1 r1 => ?_⟩
    obtain ⟨a, vs, ha, sq, rv⟩ := s1.lstOf hx
    cases r1 with
    | ref hn =>
      rw [ha] at hn; cases hn
      exact ⟨a, rfl, ⟨vs, sq⟩, p ρ1 H1 _ e1 s1 (itok_lst ha)⟩
  · cases hm
theorem i3_rng1 (hgl : Gl X "range") (hmg : X.mg "range" = none) (ha : PA3 X [a] mA) (hst : starEach [a] X.env = [(false, eval a X.env)] := by rfl) : PI3 X tgt (.Call (.Name "range" p0) [a] [] pos') (iRng (rng1 mA)) :=
  PI.imp (pi_range1 hgl hmg ha hst) fun σ H R hx2_ => by
    obtain ⟨ρ, l, S, it, k, S', sim, ro, hm, p⟩ := hx2_
    obtain ⟨⟨⟨lo, n⟩, S1⟩, q1, hm⟩ := bnd hm
    cases hm
    obtain ⟨⟨xs, S2⟩, q2, q1⟩ := bnd q1
    dsimp only at q1
    split at q1
    · rename_i j
      obtain ⟨hz, e⟩ := ite_some q1
      cases e
      refine ⟨ρ, l, S, [.int j], _, sim, ro, q2, fun ρ1 H1 vs e1 s1 r1 => ?_⟩
      obtain ⟨v, rfl, rv⟩ := r1.one
      cases rv
      exact ⟨j, rfl, hz.1, hz.2, p ρ1 H1 _ e1 s1 itok_rng⟩
    · cases q1
end
noncomputable def compG (it : ItM) (g : GM) (t : TM) (e : EM) : Nat → Nat → Lo → Sto → Option (List D × Sto)
  | 0, _, _, _ => none
  | k + 1, i, l, S => (it i S).bind fun o => match o with
    | none => some ([], S)
    | some x => (g x l S).bind fun p => (t p.1 p.2).bind fun q => if q.1 = true then (e p.1 q.2).bind fun r => (compG it g t e k (i + 1) p.1 r.2).bind fun z => some (r.1 :: z.1, z.2) else compG it g t e k (i + 1) p.1 q.2
noncomputable def srcL {α : Type} (ixs : List (Option Nat)) (l : List (Option α)) : List (Option α) := ixs.map fun o => match o with
  | some j => (l[j]?).join
  | none => none
noncomputable def eComp (im : IM) (ixs : List (Option Nat)) (g : GM) (t : TM) (e : EM) : EM := fun l S => (im l S).bind fun p => (compG p.1 g t e p.2.1 0 (srcL ixs l) p.2.2).bind fun z => if z.1.length ≤ sizeLine then some (.ref z.2.length, z.2 ++ [.lst z.1]) else none
noncomputable def tTrue : TM := fun _ S => some (true, S)
theorem srcL_ro {ρ : List Addr} {H : Hp} {l : Lo} {σ : St} (ixs : List (Option Nat)) (r : RO ρ H l σ) : RO ρ H (srcL ixs l) (srcL ixs σ) := by
  refine ⟨by simp [srcL], fun i d h => ?_⟩
  unfold srcL at h ⊢
  rw [List.getElem?_map] at h ⊢
  cases e : ixs[i]? with
  | none => rw [e] at h; cases h
  | some o =>
    rw [e] at h
    cases o with
    | none => cases h
    | some j =>
      have h : ((l[j]?).join : Option D) = some d := Option.some.inj h
      cases e2 : l[j]? with
      | none => rw [e2] at h; cases h
      | some o2 =>
        rw [e2] at h
        have h : o2 = some d := h
        subst h
        obtain ⟨v, h1, h2⟩ := r.get j d e2
        exact ⟨v, by show some ((σ[j]?).join) = _; rw [h1]; rfl, h2⟩
inductive CI3 (K : PySem.W.Frag) (it : ItM) (g : GM) (t : TM) (e : EM) (S2 : Sto) (all : List D) (ρ1 : List Addr) (H1 : Hp) (Da : Addr) (i m : Nat) (σ' : St) (H' : Hp) : Prop
  | mk (ρ' : List Addr) (l' : Lo) (S' : Sto) (ds : List D) (vs : List V) (rest : List D) (_ : Ext ρ1 H1 ρ' H') (_ : Sim K ρ' S' H') (_ : RO ρ' H' l' σ') (_ : H' Da = some (.lst vs)) (_ : (∀ n : Nat, ρ'[n]? ≠ some Da)) (_ : RDs ρ' H' ds vs) (_ : compG it g t e m i l' S' = some (rest, S2)) (_ : ds ++ rest = all)
theorem comp3 {K : PySem.W.Frag} {im : IM} {ixs : List (Option Nat)} {g : GM} {t : TM} {e : EM} (σ : St) (H : Hp) (Q : VK) (q : te K (eComp im ixs g t e) σ H Q) : tComp K (ti K im) (srcL ixs) (tg K g) (tt K t) (te K e) σ H Q := by
  obtain ⟨ρ, l, S, v, S', sim, ro, hm, p⟩ := q
  obtain ⟨⟨it, k, S1⟩, q1, hm⟩ := bnd hm
  obtain ⟨⟨all, S2⟩, q2, hm⟩ := bnd hm
  obtain ⟨hz, he⟩ := ite_some hm
  cases he
  refine ⟨ρ, l, S, it, k, S1, sim, ro, q1, fun ρ1 H1 J e1 s1 io D hD hK => ?_⟩
  dsimp only at q2 hz p
  refine ⟨fun i m σ' H' => CI3 K it g t e S2 all ρ1 H1 D i m σ' H', ⟨k, ?_⟩, ?_⟩
  · exact ⟨ρ1, srcL ixs l, S1, [], [], all, ext_new hD, s1.laid hD, (srcL_ro ixs (ro.mono e1)).mono (ext_new hD), upd_same, s1.notin hD hK, .nil, q2, rfl⟩
  · rintro i m σ' H' ⟨ρ', l', S', ds, vs, rest, e2, s2, ro2, hD2, hn2, rd2, hc, hall⟩
    cases m with
    | zero => cases hc
    | succ m =>
      unfold compG at hc
      obtain ⟨o, ho, hc⟩ := bnd hc
      obtain ⟨iStop, iGo⟩ := io i ρ' S' H' e2 s2
      cases o with
      | none =>
        cases hc
        rw [List.append_nil] at hall
        subst hall
        refine .inl ⟨iStop ho, p (ρ' ++ [D]) H' (.ref D) (e1.trans (e2.adopt hD)) (s2.adopt hD2 hn2 rd2) (.ref ?_)⟩
        rw [← s2.len]; exact get_self ρ' D
      | some x =>
        obtain ⟨⟨l3, S3⟩, q3, hc⟩ := bnd hc
        obtain ⟨⟨b, S4⟩, q4, hc⟩ := bnd hc
        obtain ⟨hgo, hy⟩ := iGo x ho
        refine .inr ⟨hgo, _, fun σ' H' h => h, fun y H'' hyl => ?_⟩
        obtain ⟨rfl, ry⟩ := hy y H'' hyl
        refine ⟨ρ', l', S', x, l3, S3, s2, ro2, ry, q3, fun ρ3 H3 σ3 e3 s3 ro3 => ⟨ρ3, l3, S3, b, S4, s3, ro3, q4, fun ρ4 H4 e4 s4 => ?_⟩⟩
        obtain ⟨hD3, hn3⟩ := e3.out D _ hD2 hn2
        obtain ⟨hD4, hn4⟩ := e4.out D _ hD3 hn3
        cases b with
        | false => exact iteF ⟨m, Nat.lt_succ_self m, ρ4, l3, S4, ds, vs, rest, e2.trans (e3.trans e4), s4, ro3.mono e4, hD4, hn4, rd2.mono (e3.trans e4), hc, hall⟩
        | true =>
          have hc : ((e l3 S4).bind fun r => (compG it g t e m (i + 1) l3 r.2).bind fun z => some (r.1 :: z.1, z.2)) = some (rest, S2) := hc
          obtain ⟨⟨y5, S5⟩, q5, hc⟩ := bnd hc
          obtain ⟨⟨rest', S6⟩, q6, hc⟩ := bnd hc
          cases hc
          refine iteT ⟨ρ4, l3, S4, y5, S5, s4, ro3.mono e4, q5, fun ρ5 H5 v5 e5 s5 r5 => ?_⟩
          obtain ⟨hD5, hn5⟩ := e5.out D _ hD4 hn4
          have e25 := e2.trans (e3.trans (e4.trans e5))
          have rd5 := rd2.mono (e3.trans (e4.trans e5))
          have hlen : vs.length < sizeLine := by
            have h1 := rd5.length
            have h2 := congrArg List.length hall
            rw [List.length_append, List.length_cons] at h2
            omega
          refine ⟨vs, hD5, hlen, m, Nat.lt_succ_self m, ρ5, l3, S5, ds ++ [y5], vs ++ [v5], rest', e25.beside hD hD5, s5.beside hD5 hn5, ?_, upd_same, hn5, ((rd5.append (.cons r5 .nil)).mono0 (ext0_upd hD5)), q6, by rw [← hall]; simp⟩
          have r0 := (ro3.mono e4).mono e5
          exact ⟨r0.len, fun i d h => let ⟨w, h1, h2⟩ := r0.get i d h; ⟨w, h1, h2.mono0 (ext0_upd hD5)⟩⟩
theorem pts3_nil {X : Cx} : PTs X [] (tt X.K tTrue) := fun pins s σ H Q I hx4_ => by
  obtain ⟨ρ, l, S, v, S', sim, ro, hm, p⟩ := hx4_
  cases hm
  exact pts_nil pins s σ H Q I (p ρ H (Ext.refl ..) sim)
theorem pts3_one {X : Cx} {c : Expr} {t : TM} (h : PT3 X c t) : PTs X [c] (tt X.K t) := pts_one h
end L3
namespace L3
open PySem PySem.Spec PyProof.Rows L2
noncomputable def dPlus : D → D → Sto → Option (D × Sto)
  | .int i, .int j, S => some (.int (i + j), S)
  | .tup xs, .tup ys, S => if xs.length + ys.length ≤ sizeLine then some (.tup (xs ++ ys), S) else none
  | .ref n, .ref m, S => match S[n]?, S[m]? with
    | some (.lst xs), some (.lst ys) => if xs.length + ys.length ≤ sizeLine then some (.ref S.length, S ++ [.lst (xs ++ ys)]) else none
    | _, _ => none
  | _, _, _ => none
theorem op3_plus {K : PySem.W.Frag} : Op3 K dPlus (fun x y H Q => rI0 (fun i j => .int (i + j)) x y H Q ∨ (rCatT K x y H Q ∨ rCatT0 K x y H Q) ∨ rCat x y H Q) := by
  intro ρ S H x y x' y' v S' Q sim rx ry h p
  unfold dPlus at h
  split at h
  · cases rx; cases ry; cases h
    exact .inl ⟨_, _, rfl, rfl, p ρ H _ (Ext.refl ..) sim (.int _)⟩
  · refine .inr (.inl (op3_catT ρ S H _ _ x' y' v S' Q sim rx ry ?_ p))
    unfold dCatT
    exact h
  · split at h
    · rename_i xs ys e1 e2
      obtain ⟨hz, e⟩ := ite_some h
      cases e
      obtain ⟨a, us, ha, hH, r2⟩ := sim.lst e1
      obtain ⟨b, ws, hb, hH2, r3⟩ := sim.lst e2
      cases rx with
      | ref hn =>
        rw [ha] at hn; cases hn
        cases ry with
        | ref hm =>
          rw [hb] at hm; cases hm
          exact .inr (.inr ⟨a, b, us, ws, rfl, rfl, hH, hH2, by rw [← r2.length, ← r3.length]; exact hz, new_lst sim (r2.append r3) p⟩)
    · cases h
  · cases h
section
variable {X : Cx} {a b : Expr} {ma mb : EM} {pos : Pos}
end
noncomputable def Has (P : Program) (w : World) (K : PySem.W.Frag) (mg : Str → Option Value) (base : Heap) (x : Str) (k n : Nat) (m : FM) : Prop :=
  ∃ (f : Addr) (fd : FuncData) (ps : List Str), FnOk P w K mg base CX0 k f fd ps (sp3 K n m) ∧ mg x = some (.ref f) ∧ PySem.W.keepIn K (.ref f) = true ∧ Binds K fd ps []
section
variable {X : Cx} {a : Expr} {es : List Expr} {mA : AM} {pos p : Pos} {x : Str} {k j n : Nat} {m : FM}
theorem p3_fn (F : Has X.prog X.w X.K X.mg X.base x k n m) (hr : Room j X.A) (hkj : k ≤ j) (hg : Gl X x)
    (ha : PA3 X (a :: es) mA) (hl : ∀ l S v S', mA l S = some (v, S') → v.length = n) (hdb : (x == ("__debug__" : Str)) = false := by decide) (he : starEach (a :: es) X.env = (false, eval a X.env) :: starEach es X.env := by rfl) (hpl : (backTo pos (starEach es X.env)).any (·.1) = false := by rfl) :
    PE3 X (.Call (.Name x p) (a :: es) [] pos) (eCall m mA) := by
  obtain ⟨f, fd, ps, F, hm, hk, hb⟩ := F
  exact p3_call F (hr.mono hkj) hg hm hk hb ha hl hdb he hpl
theorem boot_int' : bootBuiltins "int" = some (.type "int") := by decide +kernel
theorem boot_tuple' : bootBuiltins "tuple" = some (.type "tuple") := by decide +kernel
theorem boot_list' : bootBuiltins "list" = some (.type "list") := by decide +kernel
theorem boot_bool' : bootBuiltins "bool" = some (.type "bool") := by decide +kernel
theorem boot_str' : bootBuiltins "str" = some (.type "str") := by decide +kernel
theorem boot_min' : bootBuiltins "min" = some (.builtin "min") := by decide +kernel
theorem boot_max' : bootBuiltins "max" = some (.builtin "max") := by decide +kernel
theorem p3_tuple1 (hg : Gl X "tuple") (hm : X.mg "tuple" = none) (ha : PA3 X (a :: es) mA) (he : starEach (a :: es) X.env = (false, eval a X.env) :: starEach es X.env := by rfl) (hpl : (backTo pos (starEach es X.env)).any (·.1) = false := by rfl) : PE3 X (.Call (.Name "tuple" p) (a :: es) [] pos) (eCall fTuple mA) :=
  p3_callTy call_tuple_of fn3_tuple hg hm boot_tuple' ha (by decide) (by decide) he hpl
theorem p3_list1 (hg : Gl X "list") (hm : X.mg "list" = none) (ha : PA3 X (a :: es) mA) (he : starEach (a :: es) X.env = (false, eval a X.env) :: starEach es X.env := by rfl) (hpl : (backTo pos (starEach es X.env)).any (·.1) = false := by rfl) : PE3 X (.Call (.Name "list" p) (a :: es) [] pos) (eCall fList mA) :=
  p3_callTy call_list_of fn3_list hg hm boot_list' ha (by decide) (by decide) he hpl
theorem p3_min2 (hc : X.calm = true) (hg : Gl X "min") (hm : X.mg "min" = none) (ha : PA3 X (a :: es) mA) (he : starEach (a :: es) X.env = (false, eval a X.env) :: starEach es X.env := by rfl) (hpl : (backTo pos (starEach es X.env)).any (·.1) = false := by rfl) : PE3 X (.Call (.Name "min" p) (a :: es) [] pos) (eCall fMin2 mA) :=
  p3_callB (call_min2 hc) fn3_min2 hg hm boot_min' ha (by decide) (by decide) he hpl
theorem p3_max2 (hc : X.calm = true) (hg : Gl X "max") (hm : X.mg "max" = none) (ha : PA3 X (a :: es) mA) (he : starEach (a :: es) X.env = (false, eval a X.env) :: starEach es X.env := by rfl) (hpl : (backTo pos (starEach es X.env)).any (·.1) = false := by rfl) : PE3 X (.Call (.Name "max" p) (a :: es) [] pos) (eCall fMax2 mA) :=
  p3_callB (call_max2 hc) fn3_max2 hg hm boot_max' ha (by decide) (by decide) he hpl
end
theorem has_of {P : Program} {w : World} {K : PySem.W.Frag} {mg : Str → Option Value} {base : Heap} {x : Str} {st : Stmt} {f : Addr} {fd : FuncData} {N ps : List Str} {k n : Nat} {b : SM} (F : Fun K x x st f fd) (hm : mg x = some (.ref f)) (S : FnScope N ps (defScope st)) (hn : ps.length = n) (hb : Binds K fd ps [])
    (hbody : ∀ (cdv : Value), PySem.W.codeIn K cdv x = true → ∀ (A : Around) (outer : List Env) (s : Shared) (H : Hp) (E : XK), Room k (A.deeper (envOfC x (defScope st) s.heap.objs.size f cdv)) →
      PSs3 (cxOf CX0 P w K mg base N x (defScope st) f cdv A outer s H E).nox (defBody st) b) : Has P w K mg base x (k + 1) n (runB N.length b) :=
  ⟨f, fd, ps, fun3 F S hn hbody, hm, F.kp, hb⟩
noncomputable def chk (scO scope : Scope) (NO N' : List Str) (ixs : List (Option Nat)) : Bool :=
  decide (scope.kind = .function) && (scope.names.all fun y => y.2 != .cell) && (scope.names.all fun y => y.2 != .local || scope.names.lookup y.1 == some .local) &&
  (scope.names.all fun y => y.2 != .free || (scO.names.lookup y.1 == some .cell || scO.names.lookup y.1 == some .free)) && (ixs.length == N'.length) &&
  ((List.range ixs.length).all fun i => match ixs[i]? with | some (some j) => (NO[j]? == N'[i]? && (match N'[i]? with | some x => scope.names.lookup x == some .free | none => false)) | _ => true)
theorem compSc_of {X : Cx} {scO scope : Scope} {NO N' : List Str} {ixs : List (Option Nat)} (hX : X.env.scope = scO) (hN : X.N = NO) (h : chk scO scope NO N' ixs = true) : CompSc X N' scope (srcL ixs) := by
  unfold chk at h
  simp only [Bool.and_eq_true, decide_eq_true_eq, List.all_eq_true, beq_iff_eq, Bool.or_eq_true, bne_iff_ne, ne_eq] at h
  obtain ⟨⟨⟨⟨⟨h1, h2⟩, h3⟩, h4⟩, h5⟩, h6⟩ := h
  refine ⟨h1, h2, fun y hy hl => ?_, fun y hy hl => ?_, fun y hy => ?_, fun σ => by simp [srcL, h5], fun σ i v x hv hx => ?_⟩
  · rcases h3 y hy with z | z
    · exact absurd hl z
    · exact z
  · show X.env.scope.names.lookup y.1 = _ ∨ X.env.scope.names.lookup y.1 = _
    rw [hX]
    rcases h4 y hy with z | z
    · exact absurd hl z
    · exact z
  · have mem : ∃ k, (k = NameKind.cell ∨ k = NameKind.free) ∧ (y, k) ∈ (relabel scope X.env).names := by
      rcases hy with z | z
      · exact ⟨_, .inl rfl, PySem.mem_of_lookup z⟩
      · exact ⟨_, .inr rfl, PySem.mem_of_lookup z⟩
    obtain ⟨k, hk, hm⟩ := mem
    unfold relabel at hm
    obtain ⟨⟨n, k'⟩, hm1, hm2⟩ := List.mem_map.mp hm
    dsimp only at hm2
    split at hm2
    · rename_i hc
      have : k' = .free := by
        rw [Bool.and_eq_true, Bool.and_eq_true] at hc
        exact eq_of_beq hc.1.1
      cases hm2
      rw [← this]; exact hm1
    · cases hm2
      rcases hk with z | z
      · exact absurd z (h2 _ hm1)
      · rw [← z]; exact hm1
  · have hl : i < ixs.length := by
      have := (List.getElem?_eq_some_iff.mp hv).1
      simpa [srcL] using this
    unfold srcL at hv
    rw [List.getElem?_map] at hv
    have q := h6 i (List.mem_range.mpr hl)
    cases e : ixs[i]? with
    | none => rw [e] at hv; cases hv
    | some o =>
      rw [e] at hv
      cases o with
      | none => cases hv
      | some j =>
        rw [e] at q
        dsimp only at q
        rw [hx] at q
        simp only [Bool.and_eq_true, beq_iff_eq] at q
        have hv : ((σ[j]?).join : Option V) = some v := Option.some.inj hv
        refine ⟨j, by rw [hN]; exact q.1, ?_, q.2⟩
        cases e2 : σ[j]? with
        | none => rw [e2] at hv; cases hv
        | some o2 => rw [e2] at hv; have hv : o2 = some v := hv; rw [hv]
noncomputable def top (b : List Stmt) (i : Nat) : Stmt := b.getD i (.Pass ⟨0, 0, 0, 0⟩)
end L3
namespace L3
open PySem
noncomputable def We (m : EM) (l : Lo) (S : Sto) (Q : D → Sto → Prop) : Prop := ∃ v S', m l S = some (v, S') ∧ Q v S'
noncomputable def Wt (m : TM) (l : Lo) (S : Sto) (Q : Bool → Sto → Prop) : Prop := ∃ v S', m l S = some (v, S') ∧ Q v S'
noncomputable def Wa (m : AM) (l : Lo) (S : Sto) (Q : List D → Sto → Prop) : Prop := ∃ v S', m l S = some (v, S') ∧ Q v S'
noncomputable def Wo (o : Option (D × Sto)) (Q : D → Sto → Prop) : Prop := ∃ v S', o = some (v, S') ∧ Q v S'
noncomputable def Wg (o : Option (Lo × Sto)) (Q : Lo → Sto → Prop) : Prop := ∃ l S', o = some (l, S') ∧ Q l S'
noncomputable def Wr (o : Option (Fl × Lo × Sto)) (Q : Fl → Lo → Sto → Prop) : Prop := ∃ f l S', o = some (f, l, S') ∧ Q f l S'
noncomputable abbrev Ws (m : SM) (l : Lo) (S : Sto) (Q : Fl → Lo → Sto → Prop) : Prop := Wr (m l S) Q
section
variable {a b c : EM} {t u : TM} {l : Lo} {S : Sto} {Q : D → Sto → Prop} {QB : Bool → Sto → Prop} {QA : List D → Sto → Prop} {QS : Fl → Lo → Sto → Prop} {QG : Lo → Sto → Prop}
theorem we_var {i : Nat} : We (eVar i) l S Q = ∃ d, l[i]? = some (some d) ∧ Q d S := by
  apply propext; unfold We eVar
  constructor
  · rintro ⟨v, S', h, q⟩
    split at h
    · rename_i d e; cases h; exact ⟨_, e, q⟩
    · cases h
  · rintro ⟨d, e, q⟩
    exact ⟨d, S, by rw [e], q⟩
theorem we_c {d : D} : We (eC d) l S Q = Q d S := by
  apply propext; unfold We eC
  exact ⟨fun hx1_ => by obtain ⟨v, S', h, q⟩ := hx1_; cases h; exact q, fun q => ⟨_, _, rfl, q⟩⟩
theorem we_op {f : D → D → Sto → Option (D × Sto)} : We (eOp f a b) l S Q = We a l S fun x S1 => We b l S1 fun y S2 => Wo (f x y S2) Q := by
  apply propext
  constructor
  · rintro ⟨v, S', h, q⟩
    obtain ⟨⟨x, S1⟩, h1, h⟩ := bnd h
    obtain ⟨⟨y, S2⟩, h2, h⟩ := bnd h
    exact ⟨x, S1, h1, y, S2, h2, v, S', h, q⟩
  · rintro ⟨x, S1, h1, y, S2, h2, v, S', h, q⟩
    exact ⟨v, S', by unfold eOp; rw [h1]; show (b l S1).bind _ = _; rw [h2]; exact h, q⟩
theorem we_un {f : D → Sto → Option (D × Sto)} : We (eUn f a) l S Q = We a l S fun x S1 => Wo (f x S1) Q := by
  apply propext
  constructor
  · rintro ⟨v, S', h, q⟩
    obtain ⟨⟨x, S1⟩, h1, h⟩ := bnd h
    exact ⟨x, S1, h1, v, S', h, q⟩
  · rintro ⟨x, S1, h1, v, S', h, q⟩
    exact ⟨v, S', by unfold eUn; rw [h1]; exact h, q⟩
theorem wa_nil : Wa aNil l S QA = QA [] S := by
  apply propext
  exact ⟨fun hx2_ => by obtain ⟨v, S', h, q⟩ := hx2_; cases h; exact q, fun q => ⟨_, _, rfl, q⟩⟩
theorem wa_cons {r : AM} : Wa (aCons a r) l S QA = We a l S fun x S1 => Wa r l S1 fun xs S2 => QA (x :: xs) S2 := by
  apply propext
  constructor
  · rintro ⟨v, S', h, q⟩
    obtain ⟨⟨x, S1⟩, h1, h⟩ := bnd h
    obtain ⟨⟨y, S2⟩, h2, h⟩ := bnd h
    cases h
    exact ⟨x, S1, h1, y, _, h2, q⟩
  · rintro ⟨x, S1, h1, y, S2, h2, q⟩
    exact ⟨x :: y, S2, by unfold aCons; rw [h1]; show (r l S1).bind _ = _; rw [h2]; rfl, q⟩
theorem we_call {f : FM} {r : AM} : We (eCall f r) l S Q = Wa r l S fun xs S1 => Wo (f xs S1) Q := by
  apply propext
  constructor
  · rintro ⟨v, S', h, q⟩
    obtain ⟨⟨x, S1⟩, h1, h⟩ := bnd h
    exact ⟨x, S1, h1, v, S', h, q⟩
  · rintro ⟨x, S1, h1, v, S', h, q⟩
    exact ⟨v, S', by unfold eCall; rw [h1]; exact h, q⟩
theorem we_methL {f : D → List D → Sto → Option (D × Sto)} {r : AM} : We (eMethL f a r) l S Q = We a l S fun x S1 => (∃ xs, recvL x S1 = some xs) ∧ Wa r l S1 fun ys S2 => Wo (f x ys S2) Q := by
  apply propext
  constructor
  · rintro ⟨v, S', h, q⟩
    obtain ⟨⟨x, S1⟩, h1, h⟩ := bnd h
    obtain ⟨xs, h2, h⟩ := bnd h
    obtain ⟨⟨y, S2⟩, h3, h⟩ := bnd h
    exact ⟨x, S1, h1, ⟨xs, h2⟩, y, S2, h3, v, S', h, q⟩
  · rintro ⟨x, S1, h1, ⟨xs, h2⟩, y, S2, h3, v, S', h, q⟩
    refine ⟨v, S', ?_, q⟩
    unfold eMethL; rw [h1]; show (recvL x S1).bind _ = _; rw [h2]; show (r l S1).bind _ = _; rw [h3]; exact h
theorem wt_e : Wt (tE a) l S QB = We a l S fun x S1 => ∃ k, x = .bl k ∧ QB k S1 := by
  apply propext
  constructor
  · rintro ⟨v, S', h, q⟩
    obtain ⟨⟨x, S1⟩, h1, h⟩ := bnd h
    refine ⟨x, S1, h1, ?_⟩
    cases x with
    | bl k => cases h; exact ⟨_, rfl, q⟩
    | _ => cases h
  · rintro ⟨x, S1, h1, k, rfl, q⟩
    exact ⟨k, S1, by unfold tE; rw [h1]; rfl, q⟩
theorem wt_and : Wt (tAnd3 t u) l S QB = Wt t l S fun k S1 => if k = true then Wt u l S1 QB else QB false S1 := by
  apply propext
  constructor
  · rintro ⟨v, S', h, q⟩
    obtain ⟨⟨x, S1⟩, h1, h⟩ := bnd h
    refine ⟨x, S1, h1, ?_⟩
    cases x with
    | true => exact ⟨v, S', h, q⟩
    | false => cases h; exact q
  · rintro ⟨x, S1, h1, h⟩
    cases x with
    | true => obtain ⟨v, S', h, q⟩ := h; exact ⟨v, S', by unfold tAnd3; rw [h1]; exact h, q⟩
    | false => exact ⟨false, S1, by unfold tAnd3; rw [h1]; rfl, h⟩
theorem wt_or : Wt (tOr3 t u) l S QB = Wt t l S fun k S1 => if k = true then QB true S1 else Wt u l S1 QB := by
  apply propext
  constructor
  · rintro ⟨v, S', h, q⟩
    obtain ⟨⟨x, S1⟩, h1, h⟩ := bnd h
    refine ⟨x, S1, h1, ?_⟩
    cases x with
    | false => exact ⟨v, S', h, q⟩
    | true => cases h; exact q
  · rintro ⟨x, S1, h1, h⟩
    cases x with
    | false => obtain ⟨v, S', h, q⟩ := h; exact ⟨v, S', by unfold tOr3; rw [h1]; exact h, q⟩
    | true => exact ⟨true, S1, by unfold tOr3; rw [h1]; rfl, h⟩
theorem wt_not : Wt (tNot3 t) l S QB = Wt t l S fun k S1 => QB (!k) S1 := by
  apply propext
  constructor
  · rintro ⟨v, S', h, q⟩
    obtain ⟨⟨x, S1⟩, h1, h⟩ := bnd h
    cases h
    exact ⟨x, _, h1, q⟩
  · rintro ⟨x, S1, h1, q⟩
    exact ⟨!x, S1, by unfold tNot3; rw [h1]; rfl, q⟩
theorem wt_true : Wt tTrue l S QB = QB true S := by
  apply propext
  exact ⟨fun hx3_ => by obtain ⟨v, S', h, q⟩ := hx3_; cases h; exact q, fun q => ⟨_, _, rfl, q⟩⟩
theorem we_and : We (eAnd3 a b) l S Q = We a l S fun x S1 => ∃ k, x = .bl k ∧ if k = true then We b l S1 Q else Q (.bl false) S1 := by
  apply propext
  constructor
  · rintro ⟨v, S', h, q⟩
    obtain ⟨⟨x, S1⟩, h1, h⟩ := bnd h
    refine ⟨x, S1, h1, ?_⟩
    cases x with
    | bl k =>
      cases k with
      | true => exact ⟨true, rfl, v, S', h, q⟩
      | false => cases h; exact ⟨false, rfl, q⟩
    | _ => cases h
  · rintro ⟨x, S1, h1, k, rfl, h⟩
    cases k with
    | true => obtain ⟨v, S', h, q⟩ := h; exact ⟨v, S', by unfold eAnd3; rw [h1]; exact h, q⟩
    | false => exact ⟨_, S1, by unfold eAnd3; rw [h1]; rfl, h⟩
theorem we_or : We (eOr3 a b) l S Q = We a l S fun x S1 => ∃ k, x = .bl k ∧ if k = true then Q (.bl true) S1 else We b l S1 Q := by
  apply propext
  constructor
  · rintro ⟨v, S', h, q⟩
    obtain ⟨⟨x, S1⟩, h1, h⟩ := bnd h
    refine ⟨x, S1, h1, ?_⟩
    cases x with
    | bl k =>
      cases k with
      | false => exact ⟨false, rfl, v, S', h, q⟩
      | true => cases h; exact ⟨true, rfl, q⟩
    | _ => cases h
  · rintro ⟨x, S1, h1, k, rfl, h⟩
    cases k with
    | false => obtain ⟨v, S', h, q⟩ := h; exact ⟨v, S', by unfold eOr3; rw [h1]; exact h, q⟩
    | true => exact ⟨_, S1, by unfold eOr3; rw [h1]; rfl, h⟩
theorem we_not : We (eNot3 a) l S Q = We a l S fun x S1 => ∃ k, x = .bl k ∧ Q (.bl (!k)) S1 := by
  apply propext
  constructor
  · rintro ⟨v, S', h, q⟩
    obtain ⟨⟨x, S1⟩, h1, h⟩ := bnd h
    refine ⟨x, S1, h1, ?_⟩
    cases x with
    | bl k => cases h; exact ⟨k, rfl, q⟩
    | _ => cases h
  · rintro ⟨x, S1, h1, k, rfl, h⟩
    exact ⟨_, S1, by unfold eNot3; rw [h1]; rfl, h⟩
theorem we_if : We (eIf3 t a b) l S Q = Wt t l S fun k S1 => if k = true then We a l S1 Q else We b l S1 Q := by
  apply propext
  constructor
  · rintro ⟨v, S', h, q⟩
    obtain ⟨⟨x, S1⟩, h1, h⟩ := bnd h
    refine ⟨x, S1, h1, ?_⟩
    cases x with
    | true => exact ⟨v, S', h, q⟩
    | false => exact ⟨v, S', h, q⟩
  · rintro ⟨x, S1, h1, h⟩
    cases x with
    | true => obtain ⟨v, S', h, q⟩ := h; exact ⟨v, S', by unfold eIf3; rw [h1]; exact h, q⟩
    | false => obtain ⟨v, S', h, q⟩ := h; exact ⟨v, S', by unfold eIf3; rw [h1]; exact h, q⟩
variable {m n : SM}
theorem ws_next : Ws sNext l S QS = QS .nx l S := by
  apply propext
  exact ⟨fun hx4_ => by obtain ⟨f, v, S', h, q⟩ := hx4_; cases h; exact q, fun q => ⟨_, _, _, rfl, q⟩⟩
theorem ws_break : Ws sBreak l S QS = QS .bk l S := by
  apply propext
  exact ⟨fun hx5_ => by obtain ⟨f, v, S', h, q⟩ := hx5_; cases h; exact q, fun q => ⟨_, _, _, rfl, q⟩⟩
theorem ws_cont : Ws sCont l S QS = QS .ct l S := by
  apply propext
  exact ⟨fun hx6_ => by obtain ⟨f, v, S', h, q⟩ := hx6_; cases h; exact q, fun q => ⟨_, _, _, rfl, q⟩⟩
theorem ws_seq : Ws (sSeq m n) l S QS = Ws m l S fun f l1 S1 => match f with | .nx => Ws n l1 S1 QS | f => QS f l1 S1 := by
  apply propext
  constructor
  · rintro ⟨f, v, S', h, q⟩
    obtain ⟨⟨g, l1, S1⟩, h1, h⟩ := bnd h
    refine ⟨g, l1, S1, h1, ?_⟩
    cases g with
    | nx => exact ⟨f, v, S', h, q⟩
    | _ => cases h; exact q
  · rintro ⟨g, l1, S1, h1, h⟩
    cases g with
    | nx => obtain ⟨f, v, S', h, q⟩ := h; exact ⟨f, v, S', by unfold sSeq; rw [h1]; exact h, q⟩
    | bk => exact ⟨_, _, _, by unfold sSeq; rw [h1]; rfl, h⟩
    | ct => exact ⟨_, _, _, by unfold sSeq; rw [h1]; rfl, h⟩
    | rt d => exact ⟨_, _, _, by unfold sSeq; rw [h1]; rfl, h⟩
theorem ws_cut (R : Lo → Sto → Prop) (h1 : Ws m l S fun f l1 S1 => f = .nx ∧ R l1 S1) (h2 : ∀ l1 S1, R l1 S1 → Ws n l1 S1 QS) : Ws (sSeq m n) l S QS := by
  rw [ws_seq]
  obtain ⟨f, l1, S1, e, rfl, r⟩ := h1
  exact ⟨_, _, _, e, h2 l1 S1 r⟩
theorem ws_if : Ws (sIf t m n) l S QS = Wt t l S fun k S1 => if k = true then Ws m l S1 QS else Ws n l S1 QS := by
  apply propext
  constructor
  · rintro ⟨f, v, S', h, q⟩
    obtain ⟨⟨x, S1⟩, h1, h⟩ := bnd h
    refine ⟨x, S1, h1, ?_⟩
    cases x with
    | true => exact ⟨f, v, S', h, q⟩
    | false => exact ⟨f, v, S', h, q⟩
  · rintro ⟨x, S1, h1, h⟩
    cases x with
    | true => obtain ⟨f, v, S', h, q⟩ := h; exact ⟨f, v, S', by unfold sIf; rw [h1]; exact h, q⟩
    | false => obtain ⟨f, v, S', h, q⟩ := h; exact ⟨f, v, S', by unfold sIf; rw [h1]; exact h, q⟩
theorem ws_drop : Ws (sDrop a) l S QS = We a l S fun _ S1 => QS .nx l S1 := by
  apply propext
  constructor
  · rintro ⟨f, v, S', h, q⟩
    obtain ⟨⟨x, S1⟩, h1, h⟩ := bnd h
    cases h
    exact ⟨x, _, h1, q⟩
  · rintro ⟨x, S1, h1, q⟩
    exact ⟨_, _, _, by unfold sDrop; rw [h1]; rfl, q⟩
theorem ws_ret : Ws (sRet a) l S QS = We a l S fun x S1 => QS (.rt x) l S1 := by
  apply propext
  constructor
  · rintro ⟨f, v, S', h, q⟩
    obtain ⟨⟨x, S1⟩, h1, h⟩ := bnd h
    cases h
    exact ⟨x, _, h1, q⟩
  · rintro ⟨x, S1, h1, q⟩
    exact ⟨_, _, _, by unfold sRet; rw [h1]; rfl, q⟩
theorem ws_asg {g : GM} : Ws (sAsg a g) l S QS = We a l S fun x S1 => Wg (g x l S1) fun l2 S2 => QS .nx l2 S2 := by
  apply propext
  constructor
  · rintro ⟨f, v, S', h, q⟩
    obtain ⟨⟨x, S1⟩, h1, h⟩ := bnd h
    obtain ⟨⟨l2, S2⟩, h2, h⟩ := bnd h
    cases h
    exact ⟨x, S1, h1, _, _, h2, q⟩
  · rintro ⟨x, S1, h1, l2, S2, h2, q⟩
    refine ⟨_, _, _, ?_, q⟩
    unfold sAsg; rw [h1]; show (g x l S1).bind _ = _; rw [h2]; rfl
theorem wg_name {i : Nat} {d : D} : Wg (gName3 i d l S) QG = QG (l.set i (some d)) S := by
  apply propext
  exact ⟨fun hx7_ => by obtain ⟨v, S', h, q⟩ := hx7_; cases h; exact q, fun q => ⟨_, _, rfl, q⟩⟩
theorem wg_tup {k : Nat} {gs : GsM} {xs : List D} : Wg (gTup3 k gs (.tup xs) l S) QG = (xs.length = k ∧ Wg (gs xs l S) QG) := by
  apply propext
  constructor
  · rintro ⟨v, S', h, q⟩
    have h : (if xs.length = k then gs xs l S else none) = some (v, S') := h
    by_cases hl : xs.length = k
    · rw [if_pos hl] at h; exact ⟨hl, v, S', h, q⟩
    · rw [if_neg hl] at h; cases h
  · rintro ⟨hl, v, S', h, q⟩
    exact ⟨v, S', by show (if xs.length = k then gs xs l S else none) = _; rw [if_pos hl]; exact h, q⟩
theorem wg_nil : Wg (gNil3 [] l S) QG = QG l S := by
  apply propext
  exact ⟨fun hx8_ => by obtain ⟨v, S', h, q⟩ := hx8_; cases h; exact q, fun q => ⟨_, _, rfl, q⟩⟩
theorem wg_cons {g : GM} {gs : GsM} {x : D} {xs : List D} : Wg (gCons3 g gs (x :: xs) l S) QG = Wg (g x l S) fun l1 S1 => Wg (gs xs l1 S1) QG := by
  apply propext
  constructor
  · rintro ⟨v, S', h, q⟩
    obtain ⟨⟨l1, S1⟩, h1, h⟩ := bnd h
    exact ⟨l1, S1, h1, v, S', h, q⟩
  · rintro ⟨l1, S1, h1, v, S', h, q⟩
    exact ⟨v, S', by show (g x l S).bind _ = _; rw [h1]; exact h, q⟩
theorem wg_sub {o i : EM} {v : D} : Wg (gSub3 o i v l S) QG = We o l S fun x S1 => We i l S1 fun y S2 => ∃ S', setIx x y v S2 = some S' ∧ QG l S' := by
  apply propext
  constructor
  · rintro ⟨l', S', h, q⟩
    obtain ⟨⟨x, S1⟩, h1, h⟩ := bnd h
    obtain ⟨⟨y, S2⟩, h2, h⟩ := bnd h
    obtain ⟨S3, h3, h⟩ := bnd h
    cases h
    exact ⟨x, S1, h1, y, S2, h2, _, h3, q⟩
  · rintro ⟨x, S1, h1, y, S2, h2, S3, h3, q⟩
    refine ⟨l, S3, ?_, q⟩
    unfold gSub3; rw [h1]; show (i l S1).bind _ = _; rw [h2]; show (setIx x y v S2).bind _ = _; rw [h3]; rfl
theorem wo_some {d : D} : Wo (some (d, S)) Q = Q d S := by
  apply propext
  exact ⟨fun hx9_ => by obtain ⟨v, S', h, q⟩ := hx9_; cases h; exact q, fun q => ⟨_, _, rfl, q⟩⟩
theorem wo_bind {α : Type} {o : Option α} {f : α → Option (D × Sto)} : Wo (o.bind f) Q = ∃ x, o = some x ∧ Wo (f x) Q := by
  cases o with
  | none => simp [Wo]
  | some x => simp [Wo]
theorem wo_ite {p : Prop} [Decidable p] {x : D × Sto} : Wo (if p then some x else none) Q = (p ∧ Q x.1 x.2) := by
  obtain ⟨a, b⟩ := x
  by_cases hp : p
  · rw [if_pos hp]
    apply propext
    exact ⟨fun hx10_ => by obtain ⟨v, S', h, q⟩ := hx10_; cases h; exact ⟨hp, q⟩, fun q => ⟨a, b, rfl, q.2⟩⟩
  · simp [hp, Wo]
theorem wo_I0 {g : Int → Int → D} {i j : Int} : Wo (oI0 g (.int i) (.int j) S) Q = Q (g i j) S := wo_some
theorem wo_I {C : Int → Int → Bool} {g : Int → Int → D} {i j : Int} : Wo (oI C g (.int i) (.int j) S) Q = (C i j = true ∧ Q (g i j) S) := wo_ite
theorem wo_ixT {xs : List D} {i : Int} : Wo (dIx (.tup xs) (.int i) S) Q = ∃ v, L2.atI xs i = some v ∧ Q v S := by
  show Wo ((L2.atI xs i).bind fun v => some (v, S)) Q = _
  rw [wo_bind]; simp only [wo_some]
theorem wo_ixL {k : Nat} {i : Int} : Wo (dIx (.ref k) (.int i) S) Q = ∃ xs, lstOf S k = some xs ∧ ∃ v, L2.atI xs i = some v ∧ Q v S := by
  show Wo ((lstOf S k).bind fun xs => (L2.atI xs i).bind fun v => some (v, S)) Q = _
  rw [wo_bind]; simp only [wo_bind, wo_some]
theorem wo_lenT {xs : List D} : Wo (fLen [.tup xs] S) Q = Q (.int xs.length) S := wo_some
theorem wo_lenL {k : Nat} : Wo (fLen [.ref k] S) Q = ∃ xs, lstOf S k = some xs ∧ Q (.int xs.length) S := by
  show Wo ((lstOf S k).bind fun xs => some (.int xs.length, S)) Q = _
  rw [wo_bind]; simp only [wo_some]
theorem wo_abs {i : Int} : Wo (fAbs [.int i] S) Q = Q (.int (if i < 0 then -i else i)) S := wo_some
theorem wo_intB {k : Bool} : Wo (fInt [.bl k] S) Q = Q (.int (if k then 1 else 0)) S := wo_some
theorem wo_tup {xs : List D} : Wo (fTup xs S) Q = (xs.length ≤ sizeLine ∧ Q (.tup xs) S) := wo_ite
theorem wo_lst {xs : List D} : Wo (fLst xs S) Q = (xs.length ≤ sizeLine ∧ Q (.ref S.length) (S ++ [.lst xs])) := wo_ite
theorem wo_tupleL {k : Nat} : Wo (fTuple [.ref k] S) Q = ∃ xs, lstOf S k = some xs ∧ Q (.tup xs) S := by
  show Wo ((lstOf S k).bind fun xs => some (.tup xs, S)) Q = _
  rw [wo_bind]; simp only [wo_some]
theorem wo_eqI {i j : Int} : Wo (dEq (.int i) (.int j) S) Q = Q (.bl (decide (i = j))) S := wo_some
theorem wo_eqB {i j : Bool} : Wo (dEq (.bl i) (.bl j) S) Q = Q (.bl (decide (i = j))) S := wo_some
theorem wo_neS {i j : Str} : Wo (dNe (.str i) (.str j) S) Q = Q (.bl (!decide (i = j))) S := wo_some
theorem wo_is {x : D} : Wo (dIs x .non S) Q = Q (.bl (isNon x)) S := by
  cases x <;> exact wo_some
theorem wo_isnot {x : D} : Wo (dIsNot x .non S) Q = Q (.bl (!isNon x)) S := by
  cases x <;> exact wo_some
theorem wo_append {k : Nat} {x : D} : Wo (mAppend (.ref k) [x] S) Q = ∃ xs, S[k]? = some (.lst xs) ∧ xs.length < sizeLine ∧ Q .non (S.set k (.lst (xs ++ [x]))) := by
  show Wo (match S[k]? with | some (.lst xs) => if xs.length < sizeLine then some (.non, S.set k (.lst (xs ++ [x]))) else none | _ => none) Q = _
  cases e : S[k]? with
  | none => simp [Wo]
  | some o =>
    cases o with
    | lst xs => simp [wo_ite]
    | flst xs => simp [Wo]
    | iset f n => simp [Wo]
    | dct kvs => simp [Wo]
    | fdct kvs => simp [Wo]
    | ftdct kvs => simp [Wo]
    | tset ks => simp [Wo]
    | fnc x => simp [Wo]
    | tdct kvs => simp [Wo]
    | exc c => simp [Wo]
    | tab x => simp [Wo]
    | lam g caps => simp [Wo]
    | dead => simp [Wo]
theorem wo_run {k : Nat} {b : SM} {ds : List D} : Wo (runB k b ds S) Q = Ws b (ds.map some ++ List.replicate (k - ds.length) none) S fun f _ S1 => match f with | .rt d => Q d S1 | .nx => Q .non S1 | _ => False := by
  apply propext
  constructor
  · rintro ⟨v, S', h, q⟩
    obtain ⟨⟨f, l1, S1⟩, h1, h⟩ := bnd h
    refine ⟨f, l1, S1, h1, ?_⟩
    cases f with
    | rt d => cases h; exact q
    | nx => cases h; exact q
    | bk => cases h
    | ct => cases h
  · rintro ⟨f, l1, S1, h1, q⟩
    cases f with
    | rt d => exact ⟨_, _, by unfold runB; rw [h1]; rfl, q⟩
    | nx => exact ⟨_, _, by unfold runB; rw [h1]; rfl, q⟩
    | bk => cases q
    | ct => cases q
end
theorem Wo.mono {o : Option (D × Sto)} {Q Q' : D → Sto → Prop} (h : Wo o Q) (i : ∀ v S, Q v S → Q' v S) : Wo o Q' := let ⟨v, S, e, q⟩ := h; ⟨v, S, e, i v S q⟩
theorem Wr.mono {o : Option (Fl × Lo × Sto)} {Q Q' : Fl → Lo → Sto → Prop} (h : Wr o Q) (i : ∀ f v S, Q f v S → Q' f v S) : Wr o Q' := let ⟨f, v, S, e, q⟩ := h; ⟨f, v, S, e, i f v S q⟩
section
variable {g : GM} {b : SM} {l : Lo} {S : Sto} {QS : Fl → Lo → Sto → Prop}
theorem ws_forR {as : AM} : Ws (sForR (rng1 as) g b) l S QS = Wa as l S fun xs S1 => ∃ j, xs = [.int j] ∧ (-(2 ^ 62) ≤ j ∧ j < 2 ^ 62) ∧ Wr (forX g b (rngD 0 j.toNat) l S1) QS := by
  apply propext
  constructor
  · rintro ⟨f, v, S', h, q⟩
    obtain ⟨⟨⟨lo, n⟩, S1⟩, h1, h⟩ := bnd h
    obtain ⟨⟨xs, S2⟩, h2, h1⟩ := bnd h1
    dsimp only at h1
    split at h1
    · rename_i j
      obtain ⟨hz, e⟩ := ite_some h1
      cases e
      exact ⟨_, _, h2, j, rfl, hz, f, v, S', h, q⟩
    · cases h1
  · rintro ⟨xs, S1, h1, j, rfl, hz, f, v, S', h, q⟩
    refine ⟨f, v, S', ?_, q⟩
    have : rng1 as l S = some ((0, j.toNat), S1) := by
      unfold rng1; rw [h1]; show (if _ then _ else _) = _; rw [if_pos hz]
    unfold sForR; show (rng1 as l S).bind _ = _; rw [this]; exact h
theorem ws_forT {e : EM} : Ws (sFor e g b) l S QS = We e l S fun x S1 => Wr (match x with | .tup xs => forX g b xs l S1 | .ref n => (lstOf S1 n).bind fun xs => forL g b n (xs.length + 1) 0 l S1 | _ => none) QS := by
  apply propext
  constructor
  · rintro ⟨f, v, S', h, q⟩
    obtain ⟨⟨x, S1⟩, h1, h⟩ := bnd h
    exact ⟨x, S1, h1, f, v, S', h, q⟩
  · rintro ⟨x, S1, h1, f, v, S', h, q⟩
    exact ⟨f, v, S', by unfold sFor; rw [h1]; exact h, q⟩
theorem rngD_get {lo : Int} {n i : Nat} {x : D} (h : (rngD lo n)[i]? = some x) : i < n ∧ x = .int (lo + i) := by
  have hl := (List.getElem?_eq_some_iff.mp h).1
  simp only [rngD, List.length_map, List.length_range] at hl
  unfold rngD at h
  rw [List.getElem?_map, List.getElem?_range hl] at h
  exact ⟨hl, (Option.some.inj h).symm⟩
theorem rngD_len (lo : Int) (n : Nat) : (rngD lo n).length = n := by simp [rngD]
end
end L3
namespace L3
open PySem PySem.Spec PyProof.Rows L2
mutual
noncomputable def pyOf (S : Sto) : Nat → D → Option PyData
  | 0, _ => none
  | _ + 1, .non => some .none
  | _ + 1, .bl b => some (.bool b)
  | _ + 1, .int i => if i.natAbs.log2 < 1920 then some (.int i) else none
  | _ + 1, .str x => some (.str x)
  | k + 1, .tup xs => (pyAll S k xs).bind fun ds => some (.tuple ds)
  | k + 1, .ref n => (lstOf S n).bind fun xs => (pyAll S k xs).bind fun ds => some (.list ds)
  | _ + 1, .fn _ => none
termination_by k => (k, 0)
noncomputable def pyAll (S : Sto) : Nat → List D → Option (List PyData)
  | _, [] => some []
  | k, x :: xs => (pyOf S k x).bind fun d => (pyAll S k xs).bind fun ds => some (d :: ds)
termination_by k xs => (k, xs.length + 1)
end
noncomputable def fRepr : FM
  | [x], S => (pyOf S 140 x).bind fun d => if d.shown.length ≤ sizeLine then some (.str d.shown, S) else none
  | _, _ => none
section
variable {X : Cx} {pins : List (Addr × Obj)} {σ : St} {H : Hp} {s : Shared} {ρ : List Addr} {S : Sto}
theorem readsAll_of' (I : Inv X pins σ H s) (sim : Sim X.K ρ S H) {k : Nat} (ih : ∀ (d : D) (v : V) (u : Value) (p : PyData), RD ρ H d v → RelV v u → pyOf S k d = some p → (∃ as, Reads s.heap u p as) ∧ p.showable = true ∧ p.hasDict = false ∧ p.depth ≤ k) : ∀ (xs : List D) (vs : List V) (us : List Value) (ds : List PyData), RDs ρ H xs vs → Vals vs us → pyAll S k xs = some ds → (∃ as, ReadsAll s.heap us ds as) ∧ PyData.showableAll ds = true ∧ PyData.hasDictAll ds = false ∧ PyData.depthAll ds ≤ k := by
  intro xs
  induction xs with
  | nil =>
    intro vs us ds r e h
    unfold pyAll at h; cases h; cases r; cases e
    exact ⟨⟨_, .nil⟩, rfl, rfl, Nat.zero_le _⟩
  | cons x xs ihx =>
    intro vs us ds r e h
    unfold pyAll at h
    obtain ⟨d, h1, h⟩ := bnd h
    obtain ⟨ds', h2, h⟩ := bnd h
    cases h
    cases r with
    | cons r1 r2 =>
      cases e with
      | cons e1 e2 =>
        obtain ⟨⟨as, q1⟩, q2, q3, q4⟩ := ih x _ _ d r1 e1 h1
        obtain ⟨⟨bs, p1⟩, p2, p3, p4⟩ := ihx _ _ ds' r2 e2 h2
        refine ⟨⟨_, .cons q1 p1⟩, ?_, ?_, ?_⟩
        · unfold PyData.showableAll; rw [q2, p2]; rfl
        · unfold PyData.hasDictAll; rw [q3, p3]; rfl
        · unfold PyData.depthAll; omega
theorem reads_of (I : Inv X pins σ H s) (sim : Sim X.K ρ S H) : ∀ (k : Nat) (d : D) (v : V) (u : Value) (p : PyData), RD ρ H d v → RelV v u → pyOf S k d = some p → (∃ as, Reads s.heap u p as) ∧ p.showable = true ∧ p.hasDict = false ∧ p.depth ≤ k := by
  intro k
  induction k with
  | zero => intro d v u p _ _ h; unfold pyOf at h; cases h
  | succ k ih =>
    intro d v u p r e h
    cases d with
    | non  =>
      unfold pyOf at h; cases h; cases r; cases e
      exact ⟨⟨_, .none⟩, rfl, rfl, Nat.zero_le _⟩
    | bl b =>
      unfold pyOf at h; cases h; cases r; cases e
      exact ⟨⟨_, .bool b⟩, rfl, rfl, Nat.zero_le _⟩
    | int i =>
      unfold pyOf at h
      obtain ⟨hz, e2⟩ := ite_some h
      cases e2; cases r
      obtain ⟨t, rfl⟩ := e
      exact ⟨⟨_, .int i t⟩, by unfold PyData.showable; exact decide_eq_true hz, rfl, Nat.zero_le _⟩
    | str x =>
      unfold pyOf at h; cases h; cases r
      obtain ⟨t, rfl⟩ := e
      exact ⟨⟨_, .str x t⟩, rfl, rfl, Nat.zero_le _⟩
    | fn _ => unfold pyOf at h; cases h
    | tup xs =>
      unfold pyOf at h
      obtain ⟨ds, h1, h⟩ := bnd h
      cases h
      cases r with
      | tup ha r =>
        cases e
        obtain ⟨its, rv, ⟨o, ho, hc, n, hd⟩, hz⟩ := I.tuple (SqT.of ha)
        obtain ⟨⟨as, h2⟩, h3, h4, h5⟩ := readsAll_of' I sim ih xs _ _ ds r rv h1
        refine ⟨⟨as, .tuple ho hc hd (by simpa using h2)⟩, ?_, ?_, ?_⟩
        · unfold PyData.showable; exact h3
        · unfold PyData.hasDict; exact h4
        · unfold PyData.depth; omega
    | ref n =>
      unfold pyOf at h
      obtain ⟨xs, h0, h⟩ := bnd h
      obtain ⟨ds, h1, h⟩ := bnd h
      cases h
      obtain ⟨a, vs, ha, sq, rd⟩ := sim.lstOf h0
      cases r with
      | ref hn =>
        rw [ha] at hn; cases hn
        cases e
        obtain ⟨its, rv, pl, hz⟩ := I.list sq
        obtain ⟨o, ho, hc, m, hd⟩ := pl.isList
        obtain ⟨⟨as, h2⟩, h3, h4, h5⟩ := readsAll_of' I sim ih xs _ _ ds rd rv h1
        refine ⟨⟨_, .list ho hc hd (by simpa using h2)⟩, ?_, ?_, ?_⟩
        · unfold PyData.showable; exact h3
        · unfold PyData.hasDict; exact h4
        · unfold PyData.depth; omega
end
end L3
namespace L3
open PySem PySem.Spec PyProof.Rows L2
section
variable {X : Cx} {a : Expr} {es : List Expr} {mA : AM} {pos p : Pos}
theorem call_repr3 {k : Nat} (hr : Room k X.A) : CallR X (.builtin "repr") (fun xs H Q => ∃ v ρ S d pd, xs = [v] ∧ Sim X.K ρ S H ∧ RD ρ H d v ∧ pyOf S 140 d = some pd ∧ pd.shown.length ≤ sizeLine ∧ Q (.str pd.shown) H) := by
  intro pins s σ H xs us Q I r h
  obtain ⟨v, ρ, S, d, pd, rfl, sim, rd, hp, hz, q⟩ := h
  obtain ⟨u, rfl, ru⟩ := vals1 r
  have key := reads_of I sim 140 d v u pd rd ru hp
  have byRef : ∀ a, u = .ref a → wpAny (model X.prog X.w) X.A (call (.builtin "repr") [u]) (EP X pins σ Q) X.xe s := fun b hb => by
    subst hb
    obtain ⟨⟨as, h1⟩, h2, h3, h4⟩ := key
    have hu : X.A.units + (pd.depth + 1) < cLine := by have := hr.un; omega
    refine repr_of_reads' h1 h2 (fun z => by rw [h3] at z; cases z) hr.gd hu (fun _ _ e => e) (fun h' u tk hk => ?_) hz
    exact ⟨.str pd.shown, H, I.kept hk, ⟨u, rfl⟩, q⟩
  have hp' := hp
  cases rd with
  | non => cases ru; unfold pyOf at hp'; cases hp'; exact P.repr_of_none ⟨.str _, H, I.tok _, ⟨_, rfl⟩, q⟩
  | bl b => cases ru; unfold pyOf at hp'; cases hp'; exact P.repr_of_bool ⟨.str _, H, I.tok _, ⟨_, by cases b <;> rfl⟩, q⟩
  | int i =>
    obtain ⟨t, rfl⟩ := ru
    unfold pyOf at hp'
    obtain ⟨hi, e⟩ := ite_some hp'
    cases e
    exact P.repr_of_int hi ⟨.str _, H, I.tok _, ⟨_, rfl⟩, q⟩
  | str x => obtain ⟨t, rfl⟩ := ru; unfold pyOf at hp'; cases hp'; exact P.repr_of_str ⟨.str _, H, I.tok _, ⟨_, rfl⟩, q⟩ hz
  | tup ha r => exact byRef _ ru
  | ref hn => exact byRef _ ru
  | fn b => unfold pyOf at hp'; cases hp'
theorem fn3_repr {K : PySem.W.Frag} : Fn3 K fRepr (fun xs H Q => ∃ v ρ S d pd, xs = [v] ∧ Sim K ρ S H ∧ RD ρ H d v ∧ pyOf S 140 d = some pd ∧ pd.shown.length ≤ sizeLine ∧ Q (.str pd.shown) H) := by
  intro ρ S H xs vs v S' Q sim r h p
  unfold fRepr at h
  split at h
  · obtain ⟨pd, h1, h⟩ := bnd h
    obtain ⟨hz, e⟩ := ite_some h
    cases e
    obtain ⟨w, rfl, rw'⟩ := r.one
    exact ⟨w, ρ, _, _, pd, rfl, sim, rw', h1, hz, p ρ H _ (Ext.refl ..) sim (.str _)⟩
  · cases h
theorem boot_repr' : bootBuiltins "repr" = some (.builtin "repr") := by decide +kernel
end
end L3
namespace L3
open PySem PySem.Spec PyProof.Rows L2
theorem noFill_tuple_mul : fillsNumberSlot (.type "tuple") "mul" = pure false :=
  PySem.fillsNumberSlot_seq (id := "tuple.__mul__") (r := some (.builtin "tuple.__rmul__")) PySem.F.slot_tuple_mul.lookup (by decide +kernel) PySem.F.slot_tuple_rmul.lookup (by decide +kernel)
theorem repeat_tuple : seqRepeat? (.type "tuple") = pure (some (.builtin "tuple.__mul__")) := by
  unfold seqRepeat?
  rw [PySem.seqSlot_of (T := "tuple") (name := "__mul__") (id := "tuple.__mul__") PySem.F.slot_tuple_mul.lookup (by decide +kernel), PySem.seqSlot_of (T := "tuple") (name := "__rmul__") (id := "tuple.__rmul__") PySem.F.slot_tuple_rmul.lookup (by decide +kernel)]
  rfl
open PySem.AutoSeq1 (wpAny_loadPart')
theorem rmul_int_tuple (a : Int) (t : Tok) (l : Addr) (items : Array Value) (n : Nat) (dd : Option Addr) (sl : Array (Option Value)) :
    Meets (Builtin.«int.__rmul__» ⟨[.int a t, .ref l], []⟩) (fun _ R s => s.heap.get? l = some { cls := .type "tuple", dict := dd, data := .seq items n, slots := sl } ∧ R (.ok (.ret Value.notImplemented)) s) :=
  .of_wp fun prog w A R s h => by obtain ⟨hp, g, d, tk, os⟩ := s; obtain ⟨hl, h⟩ := h; wp_walk; exact ⟨_, rfl, h⟩
section
variable {prog : Program} {w : World} {A : Around} {E : Value → Shared → Prop} {s : Shared}
theorem mul_tup {t : Addr} {items : Array Value} {k : Int} {u : Tok} {Q : Value → Shared → Prop} (ht : IsTup s.heap t items) (k0 : 2 ≤ k) (k1 : k < 2 ^ 31) (hi : items.isEmpty = false) (hz : items.size * k.toNat ≤ sizeLine)
    (h : Q (.ref s.heap.objs.size) { s with heap := s.heap.push { cls := .type "tuple", data := .seq ((List.replicate k.toNat items).foldl (· ++ ·) #[]) } }) (h6 : ((List.replicate k.toNat items).foldl (· ++ ·) #[]).size ≤ sizeLine) :
    wpAny (model prog w) A (call (.builtin "tuple.__mul__") [.ref t, .int k u]) Q E s := by
  refine wpAny_call_entry PySem.F.slot_tuple_mul ht.typeIs PySem.F.entry_tuple_mul ?_ (PySem.F.args_tuple_mul_2 _ _)
  show wpAny _ _ (asIndex (.int k u) >>= _) _ _ s
  refine wpAny_bind ?_
  show wpAny _ _ (pure k) _ _ s
  refine wpAny_pure ?_
  have e1 : (decide (k < -(2 ^ 63)) || decide (k ≥ 2 ^ 63)) = false := by
    rw [Bool.or_eq_false_iff]; exact ⟨decide_eq_false (by omega), decide_eq_false (by omega)⟩
  have e2 : (items.isEmpty || k == 1) = false := by rw [hi, Bool.false_or]; exact beq_false_of_ne (by omega)
  have e3 : (decide (k ≤ 0) || items.isEmpty) = false := by rw [hi, Bool.or_false]; exact decide_eq_false (by omega)
  show wpAny _ _ (if (decide (k < -(2 ^ 63)) || decide (k ≥ 2 ^ 63)) = true then _ else _) _ _ s
  rw [if_neg (by rw [e1]; exact Bool.false_ne_true)]
  refine wpAny_bind (tupleItemsOf_ ht ?_)
  show wpAny _ _ (if (items.isEmpty || k == 1) = true then _ else _) _ _ s
  rw [if_neg (by rw [e2]; exact Bool.false_ne_true)]
  show wpAny _ _ (if (decide (k ≤ 0) || items.isEmpty) = true then _ else _) _ _ s
  rw [if_neg (by rw [e3]; exact Bool.false_ne_true)]
  have hk : (items.size : Int) * k = ((items.size * k.toNat : Nat) : Int) := by rw [Int.natCast_mul, Int.toNat_of_nonneg (by omega)]
  have hs : (sizeLine : Nat) = 16777216 := by decide
  show wpAny _ _ (if (items.size : Int) * k > (2 ^ 63 - 1) / 8 then _ else _) _ _ s
  rw [if_neg (by rw [hk]; omega)]
  show wpAny _ _ (if Builtin.Tuple.tupleTooMany ((items.size : Int) * k) = true then _ else _) _ _ s
  rw [if_neg (by unfold Builtin.Tuple.tupleTooMany; rw [hk]; simp only [decide_eq_true_eq]; omega)]
  first
    | exact wpAny_bind (m := Builtin.Tuple.tupleExact _) (wpAny_newObj_type (wpAny_pure ⟨_, rfl, h⟩) h6)
    | exact wpAny_bind (m := Builtin.Tuple.tupleExact _) (wpAny_newObj_type (wpAny_pure ⟨_, rfl, wpAny_pure h⟩) h6)
theorem mul_tup1 {t : Addr} {items : Array Value} {u : Tok} {Q : Value → Shared → Prop} (ht : IsTup s.heap t items) (h : Q (.ref t) s) :
    wpAny (model prog w) A (call (.builtin "tuple.__mul__") [.ref t, .int 1 u]) Q E s := by
  refine wpAny_call_entry PySem.F.slot_tuple_mul ht.typeIs PySem.F.entry_tuple_mul ?_ (PySem.F.args_tuple_mul_2 _ _)
  show wpAny _ _ (asIndex (.int 1 u) >>= _) _ _ s
  refine wpAny_bind ?_
  show wpAny _ _ (pure (1 : Int)) _ _ s
  refine wpAny_pure ?_
  show wpAny _ _ (if (decide ((1 : Int) < -(2 ^ 63)) || decide ((1 : Int) ≥ 2 ^ 63)) = true then _ else _) _ _ s
  rw [if_neg (by decide)]
  refine wpAny_bind (tupleItemsOf_ ht ?_)
  show wpAny _ _ (if (items.isEmpty || (1 : Int) == 1) = true then _ else _) _ _ s
  rw [if_pos (by simp)]
  unfold Builtin.Tuple.tupleIsExact
  refine wpAny_bind (wpAny_bind (wpAny_typeOf ht.typeIs (wpAny_pure ?_)))
  rw [if_pos (by decide)]
  exact wpAny_bind (wpAny_rule (wpAny_pure ⟨_, rfl, h⟩))
theorem mul_tup0 {t : Addr} {items : Array Value} {k : Int} {u : Tok} {Q : Value → Shared → Prop} (ht : IsTup s.heap t items) (k0 : k = 0) (hi : items.isEmpty = false)
    (h : Q (.ref s.heap.objs.size) { s with heap := s.heap.push { cls := .type "tuple", data := .seq #[] } }) :
    wpAny (model prog w) A (call (.builtin "tuple.__mul__") [.ref t, .int k u]) Q E s := by
  subst k0
  refine wpAny_call_entry PySem.F.slot_tuple_mul ht.typeIs PySem.F.entry_tuple_mul ?_ (PySem.F.args_tuple_mul_2 _ _)
  show wpAny _ _ (asIndex (.int 0 u) >>= _) _ _ s
  refine wpAny_bind ?_
  show wpAny _ _ (pure (0 : Int)) _ _ s
  refine wpAny_pure ?_
  show wpAny _ _ (if (decide ((0 : Int) < -(2 ^ 63)) || decide ((0 : Int) ≥ 2 ^ 63)) = true then _ else _) _ _ s
  rw [if_neg (by decide)]
  refine wpAny_bind (tupleItemsOf_ ht ?_)
  show wpAny _ _ (if (items.isEmpty || (0 : Int) == 1) = true then _ else _) _ _ s
  rw [if_neg (by rw [hi]; decide)]
  show wpAny _ _ (if (decide ((0 : Int) ≤ 0) || items.isEmpty) = true then _ else _) _ _ s
  rw [if_pos (by simp)]
  first
    | exact wpAny_bind (m := Builtin.Tuple.tupleExact _) (wpAny_newObj_type (wpAny_pure ⟨_, rfl, h⟩) (Nat.zero_le _))
    | exact wpAny_bind (m := Builtin.Tuple.tupleExact _) (wpAny_newObj_type (wpAny_pure ⟨_, rfl, h⟩) (by decide))
end
noncomputable def rRepT3 (K : PySem.W.Frag) : R2 := fun x y H Q => ∃ a k xs, x = .ref a ∧ y = .int k ∧ SqT K H a xs ∧ xs ≠ [] ∧ 0 ≤ k ∧ k < 2 ^ 31 ∧ xs.length * k.toNat ≤ sizeLine ∧
  (k = 1 → Q (.ref a) H) ∧ (k ≠ 1 → ∀ p, H p = none → Q (.ref p) (upd H p (.tup (List.replicate k.toNat xs).flatten)))
theorem op_repT3 {X : Cx} : OpR X (binaryOp .Mult) (rRepT3 X.K) := by
  intro pins s σ H x y v u Q I rx ry h
  obtain ⟨a, k, xs, rfl, rfl, hx, hne, k0, k1, hz, q1, q2⟩ := h
  cases rx
  obtain ⟨t, rfl⟩ := ry
  obtain ⟨its, r, pt, _⟩ := I.tuple hx
  have hne' : its ≠ [] := fun z => hne (r.nil_iff.mp z)
  have hie : its.toArray.isEmpty = false := by cases its with
    | nil => exact absurd rfl hne'
    | cons _ _ => simp
  obtain ⟨⟨cls, dd, data, sl⟩, ho, hc, n, hd⟩ := id pt
  simp only at hc hd
  subst hc hd
  refine wpAny_binaryOp_repeat_ref (T := "tuple") (U := "int") (by decide) ⟨_, ho, rfl⟩ (fun s' => typeIs_int s' k t) noFill_tuple_mul PySem.F.fills_int_mul PySem.F.slot_int_rmul repeat_tuple PySem.F.slot_int_index.lookup
    (call_meets PySem.F.slot_int_rmul (typeIs_int s k t) PySem.F.entry_int_rmul (PySem.F.args_int_rmul_2 _ _) (rmul_int_tuple k t a its.toArray n dd sl) ⟨ho, rfl, ⟨_, ho, rfl⟩, ?_⟩)
  have f0 : ∀ m : Nat, List.foldl (fun x1 x2 => x1 ++ x2) #[] (List.replicate m its.toArray) = (List.replicate m its).flatten.toArray := fun m => by
    have := foldl_rep its m []
    rw [List.nil_append] at this
    exact this
  have hl : xs.length = its.length := r.length
  by_cases e1 : k = 1
  · subst e1
    exact mul_tup1 pt ⟨.ref a, H, I, rfl, q1 rfl⟩
  · by_cases e0 : k = 0
    · refine mul_tup0 pt e0 hie ?_
      have hv : Vals ([] : List V) ([] : List Value) := .nil
      refine ⟨.ref s.heap.objs.size, _, I.laid (t' := s.toks) (o := .tup []) (fun b ob q => Heap.get?_push_of_some _ q) (Nat.le_refl _) ?_, rfl, ?_⟩
      · exact ⟨Nat.zero_le _, [], .nil, IsTD.new _ _⟩
      · have := q2 e1 _ (I.hok.fresh (Nat.le_refl _))
        subst e0
        exact this
    · have hlen : (List.replicate k.toNat its).flatten.length = k.toNat * its.length := len_rep its k.toNat
      refine mul_tup pt (by omega) k1 hie (by rw [List.size_toArray, ← hl]; exact hz) ?_ ?_
      · rw [f0]
        refine ⟨.ref s.heap.objs.size, _, I.laid (t' := s.toks) (o := .tup (List.replicate k.toNat xs).flatten) (fun b ob q => Heap.get?_push_of_some _ q) (Nat.le_refl _) ?_, rfl, q2 e1 _ (I.hok.fresh (Nat.le_refl _))⟩
        exact ⟨by rw [len_rep, Nat.mul_comm]; exact hz, _, r.rep k.toNat, IsTD.new _ _⟩
      · rw [f0, List.size_toArray, hlen, Nat.mul_comm, ← hl]; exact hz
noncomputable def dTimes : D → D → Sto → Option (D × Sto)
  | .int i, .int j, S => if (-(2 ^ 64) < i ∧ i < 2 ^ 64) ∨ (-(2 ^ 64) < j ∧ j < 2 ^ 64) then some (.int (i * j), S) else none
  | .tup (x :: xs), .int k, S => if 0 ≤ k ∧ k < 2 ^ 31 ∧ (xs.length + 1) * k.toNat ≤ sizeLine then some (.tup (List.replicate k.toNat (x :: xs)).flatten, S) else none
  | _, _, _ => none
theorem op3_times {K : PySem.W.Frag} : Op3 K dTimes (fun x y H Q => rI CMul (fun i j => .int (i * j)) x y H Q ∨ rRepT3 K x y H Q) := by
  intro ρ S H x y x' y' v S' Q sim rx ry h p
  unfold dTimes at h
  split at h
  · obtain ⟨hc, e⟩ := ite_some h
    cases e; cases rx; cases ry
    exact .inl ⟨_, _, rfl, rfl, hc, p ρ H _ (Ext.refl ..) sim (.int _)⟩
  · rename_i x xs k
    obtain ⟨⟨k0, k1, hz⟩, e⟩ := ite_some h
    cases e; cases ry
    cases rx with
    | @tup _ a vs ha r =>
      have hl := r.length
      refine .inr ⟨a, k, vs, rfl, rfl, SqT.of ha, ?_, k0, k1, by rw [← hl]; exact hz, fun e => ?_, fun _ => new_tup sim (r.rep k.toNat) p⟩
      · intro z; rw [z] at hl; cases hl
      · subst e
        have e2 : (List.replicate (1 : Int).toNat (x :: xs)).flatten = x :: xs := by simp
        rw [e2] at p
        exact p ρ H _ (Ext.refl ..) sim (.tup ha r)
  · cases h
section
variable {X : Cx} {a b : Expr} {ma mb : EM} {pos : Pos}
theorem p3_times (ha : PE3 X a ma) (hb : PE3 X b mb) : PE3 X (.BinOp a .Mult b pos) (eOp dTimes ma mb) := p3_op (op_mul.or op_repT3) op3_times ha hb
end
end L3
namespace L3
open PySem PySem.Spec PyProof.Rows L2
noncomputable def whl (c : TM) (b : SM) : Nat → SM
  | 0, _, _ => none
  | k + 1, l, S => (c l S).bind fun p => if p.1 = true then (b l p.2).bind fun q => match q.1 with
    | .nx => whl c b k q.2.1 q.2.2
    | .ct => whl c b k q.2.1 q.2.2
    | .bk => some (.nx, q.2)
    | .rt d => some (.rt d, q.2) else some (.nx, l, p.2)
section
variable {X : Cx} {c : Expr} {body : List Stmt} {mc : TM} {mb : SM} {pos : Pos}
theorem s3_while (n : Nat) (hp : PassesOwn (model X.prog X.w) X.A X.env X.xe) (hc : PT3 X c mc) (hb : PSs3 X body mb) : PS3 X (.While c body [] pos) (whl mc mb n) :=
  PS.imp (ps_while hp hc hb) fun E σ H hx1_ => by
    obtain ⟨ρ, l, S, f, l', S', sim, ro, hm, p⟩ := hx1_
    refine ⟨fun m σ1 H1 => ∃ ρ1 l1 S1, Ext ρ H ρ1 H1 ∧ Sim X.K ρ1 S1 H1 ∧ RO ρ1 H1 l1 σ1 ∧ whl mc mb m l1 S1 = some (f, l', S'), ⟨n, ρ, l, S, Ext.refl .., sim, ro, hm⟩, ?_⟩
    rintro m σ1 H1 ⟨ρ1, l1, S1, e1, s1, ro1, hm1⟩
    cases m with
    | zero => cases hm1
    | succ m =>
      unfold whl at hm1
      obtain ⟨⟨k, S2⟩, q1, hm1⟩ := bnd hm1
      refine ⟨ρ1, l1, S1, k, S2, s1, ro1, q1, fun ρ2 H2 e2 s2 => ?_⟩
      cases k with
      | false =>
        cases hm1
        exact iteF (p ρ2 H2 σ1 (e1.trans e2) s2 (ro1.mono e2))
      | true =>
        have hm1 : ((mb l1 S2).bind fun q => match q.1 with
          | .nx => whl mc mb m q.2.1 q.2.2
          | .ct => whl mc mb m q.2.1 q.2.2
          | .bk => some (.nx, q.2)
          | .rt d => some (.rt d, q.2)) = some (f, l', S') := hm1
        obtain ⟨⟨fl, l3, S3⟩, q2, hm1⟩ := bnd hm1
        refine iteT ⟨_, fun σ' H' h => h, ρ2, l1, S2, fl, l3, S3, s2, ro1.mono e2, q2, fun ρ3 H3 σ3 e3 s3 ro3 => ?_⟩
        cases fl with
        | nx => exact ⟨m, Nat.lt_succ_self m, ρ3, l3, S3, e1.trans (e2.trans e3), s3, ro3, hm1⟩
        | ct => exact ⟨m, Nat.lt_succ_self m, ρ3, l3, S3, e1.trans (e2.trans e3), s3, ro3, hm1⟩
        | bk => cases hm1; exact p ρ3 H3 σ3 (e1.trans (e2.trans e3)) s3 ro3
        | rt d => cases hm1; exact p ρ3 H3 σ3 (e1.trans (e2.trans e3)) s3 ro3
end
noncomputable def isBl (b : Bool) : D → Bool
  | .bl c => c == b
  | _ => false
noncomputable def dIsB : D → D → Sto → Option (D × Sto)
  | x, .bl b, S => some (.bl (isBl b x), S)
  | _, _, _ => none
noncomputable def dIsNotB : D → D → Sto → Option (D × Sto)
  | x, .bl b, S => some (.bl (!isBl b x), S)
  | _, _, _ => none
noncomputable def vBl (b : Bool) : V → Bool
  | .bl c => c == b
  | _ => false
theorem vBl_ok {ρ : List Addr} {H : Hp} {x : D} {x' : V} {b : Bool} (r : RD ρ H x x') : vBl b x' = isBl b x := by
  cases r <;> rfl
section
variable {X : Cx}
theorem op_isB : OpR X (compareOp .Is) (fun x y H Q => (∀ z, x ≠ .flt z) ∧ ∃ b, y = .bl b ∧ Q (.bl (vBl b x)) H) := by
  intro pins s σ H x y v u Q I rx ry h
  obtain ⟨hx, b, rfl, q⟩ := h
  cases ry
  cases x <;> first
    | (cases rx; exact wpAny_is_plain rfl (fin_bl I q rfl))
    | (rename_i c; cases rx; cases c <;> cases b <;> exact wpAny_is_plain rfl (fin_bl I q (by decide +kernel)))
    | (obtain ⟨t, rfl⟩ := rx; exact wpAny_is_plain rfl (fin_bl I q rfl))
theorem op_isNotB : OpR X (compareOp .IsNot) (fun x y H Q => (∀ z, x ≠ .flt z) ∧ ∃ b, y = .bl b ∧ Q (.bl (!vBl b x)) H) := by
  intro pins s σ H x y v u Q I rx ry h
  obtain ⟨hx, b, rfl, q⟩ := h
  cases ry
  cases x <;> first
    | (cases rx; exact wpAny_isNot_plain rfl (fin_bl I q rfl))
    | (rename_i c; cases rx; cases c <;> cases b <;> exact wpAny_isNot_plain rfl (fin_bl I q (by decide +kernel)))
    | (obtain ⟨t, rfl⟩ := rx; exact wpAny_isNot_plain rfl (fin_bl I q rfl))
theorem rd_noflt {ρ : List Addr} {H : Hp} {x : D} {x' : V} (r : RD ρ H x x') : ∀ z, x' ≠ .flt z := by
  cases r <;> (intro z e; cases e)
theorem op3_isB {K : PySem.W.Frag} : Op3 K dIsB (fun x y H Q => (∀ z, x ≠ .flt z) ∧ ∃ b, y = .bl b ∧ Q (.bl (vBl b x)) H) := by
  intro ρ S H x y x' y' v S' Q sim rx ry h p
  unfold dIsB at h
  split at h
  · cases h; cases ry
    exact ⟨rd_noflt rx, _, rfl, by rw [vBl_ok rx]; exact p ρ H _ (Ext.refl ..) sim (.bl _)⟩
  · cases h
theorem op3_isNotB {K : PySem.W.Frag} : Op3 K dIsNotB (fun x y H Q => (∀ z, x ≠ .flt z) ∧ ∃ b, y = .bl b ∧ Q (.bl (!vBl b x)) H) := by
  intro ρ S H x y x' y' v S' Q sim rx ry h p
  unfold dIsNotB at h
  split at h
  · cases h; cases ry
    exact ⟨rd_noflt rx, _, rfl, by rw [vBl_ok rx]; exact p ρ H _ (Ext.refl ..) sim (.bl _)⟩
  · cases h
variable {a b : Expr} {ma mb : EM} {pos : Pos}
theorem p3_isB (ha : PE3 X a ma) (hb : PE3 X b mb) : PE3 X (.Compare a [.Is] [b] pos) (eOp dIsB ma mb) := p3_cmp op_isB op3_isB ha hb (nomark b)
theorem t3_isNotB (ha : PE3 X a ma) (hb : PE3 X b mb) : PT3 X (.Compare a [.IsNot] [b] pos) (tE (eOp dIsNotB ma mb)) := t3_cmp op_isNotB op3_isNotB ha hb (nomark b)
end
section
variable {X : Cx}
variable {a b : Expr} {ma mb : EM} {pos : Pos} {k : Nat}
end
end L3
namespace L3
open PySem PySem.Spec PyProof.Rows L2
noncomputable def setOf : Sto → D → Option ((Int → Bool) × Nat)
  | S, .ref n => match S[n]? with
    | some (.iset f k) => some (f, k)
    | _ => none
  | _, _ => none
section
variable {X : Cx}
variable {a b : Expr} {ma mb : EM} {pos : Pos}
end
section
variable {X : Cx}
variable {o e : Expr} {mo m : EM} {apos cpos : Pos}
end
section
variable {prog : Program} {w : World} {A : Around} {E : Value → Shared → Prop} {s : Shared}
end
section
variable {X : Cx}
end
noncomputable def FUEL : Nat := 1000000
end L3
namespace L3
open PySem PySem.Spec PyProof.Rows L2
noncomputable def mPopAt : D → List D → Sto → Option (D × Sto)
  | .ref n, [.int i], S => match S[n]? with
    | some (.lst xs) => (seqIndex? i xs.length).bind fun k => (xs[k]?).bind fun y => if -(2 ^ 63) ≤ i ∧ i < 2 ^ 63 then some (y, S.set n (.lst (xs.eraseIdx k))) else none
    | _ => none
  | _, _, _ => none
theorem RDs.eraseIdx {ρ : List Addr} {H : Hp} : ∀ {xs : List D} {vs : List V} (k : Nat), RDs ρ H xs vs → RDs ρ H (xs.eraseIdx k) (vs.eraseIdx k)
  | _, _, _, .nil => .nil
  | _, _, 0, .cons _ q => q
  | _, _, k + 1, .cons r q => .cons r (RDs.eraseIdx k q)
theorem mt3_popAt {K : PySem.W.Frag} : Mt3 K mPopAt rPopAt := by
  intro ρ S H x x' xs vs v S' Q sim rx r h p
  unfold mPopAt at h
  split at h
  · split at h
    · rename_i n i S ys e
      obtain ⟨k, h1, h⟩ := bnd h
      obtain ⟨y, h2, h⟩ := bnd h
      obtain ⟨hz, e2⟩ := ite_some h
      cases e2
      obtain ⟨w, rfl, rw'⟩ := r.one
      cases rw'
      obtain ⟨a, us, ha, hH, r2⟩ := sim.lst e
      obtain ⟨w2, hw, rw2⟩ := r2.get h2
      cases rx with
      | ref hn =>
        rw [ha] at hn; cases hn
        exact ⟨a, us, i, k, w2, rfl, rfl, hH, hz.1, hz.2, by rw [← r2.length]; exact h1, hw, p ρ _ _ (ext_upd ha hH) (sim.set ha e hH (r2.eraseIdx k)) (rw2.mono (ext_upd ha hH))⟩
    · cases h
  · cases h
section
variable {X : Cx} {o e : Expr} {mo m : EM} {apos cpos : Pos}
theorem p3_popAt (ho : PE3 X o mo) (he : PE3 X e m)
    (hbase : attributeBase o "pop" X.env (eval o X.env) = eval o X.env := by rfl)
    (hfew : ((backTo cpos (starEach [e] X.env)).all (fun x => !x.1) && (backToKw cpos (keywordEach [] X.env)).all (fun x => x.1.isSome)
      && decide ([e].length + ([] : List Keyword).length + (if ([] : List Keyword).isEmpty then 0 else 1) < 30)) = true := by rfl)
    (hline : (apos.endLine == cpos.line) = true := by rfl) (hs : starEach [e] X.env = (false, eval e X.env) :: starEach [] X.env := by rfl) :
    PE3 X (.Call (.Attribute o "pop" apos) [e] [] cpos) (eMethL mPopAt mo (aCons m aNil)) :=
  p3_bm PySem.F.slot_list_pop PySem.F.type_list_pop mt_popAt mt3_popAt ho (a3_cons he a3_nil hs) hbase hfew hline hs
end
section
variable {X : Cx} {o e : Expr} {mo m : EM} {apos cpos : Pos}
end
noncomputable def intsV (lo : Int) (n : Nat) : List V := (List.range n).map fun (i : Nat) => V.int (lo + i)
theorem vals_of : ∀ {xs : List V} {us : List Value}, xs.length = us.length → (∀ (j : Nat) x u, xs[j]? = some x → us[j]? = some u → RelV x u) → Vals xs us
  | [], [], _, _ => .nil
  | [], _ :: _, h, _ => by simp at h
  | _ :: _, [], h, _ => by simp at h
  | x :: xs, u :: us, h, q => .cons (q 0 x u rfl rfl) (vals_of (by simpa using h) fun j y w h1 h2 => q (j + 1) y w (by simpa using h1) (by simpa using h2))
section
variable {X : Cx}
theorem call_rng1 : CallR X (.type "range") (fun xs H Q => ∃ j, xs = [.int j] ∧ ∀ r, H r = none → Q (.ref r) (upd H r (.rng 0 j))) := by
  intro pins s σ H xs us Q I r h
  obtain ⟨j, rfl, q⟩ := h
  obtain ⟨u1, rfl, r1⟩ := r.one
  obtain ⟨t, rfl⟩ := r1
  exact call_range_1 ⟨.ref _, _, I.laid (o := .rng 0 j) (fun b o e => Heap.get?_push_of_some _ e) (Nat.le_refl _) ⟨_, _, _, Heap.get?_push_size _ rfl⟩, rfl, q _ I.fresh⟩
theorem call_list_rng (hc : X.calm = true) : CallR X (.type "list") (fun xs H Q => ∃ p lo hi, xs = [.ref p] ∧ H p = some (.rng lo hi) ∧ (-(2 ^ 62) ≤ lo ∧ lo < 2 ^ 62 ∧ -(2 ^ 62) ≤ hi ∧ hi < 2 ^ 62) ∧ (hi - lo).toNat ≤ sizeLine ∧ ∀ l, H l = none → Q (.ref l) (upd H l (.lst (intsV lo (hi - lo).toNat)))) := by
  intro pins s σ H xs us Q I r h
  obtain ⟨p, lo, hi, rfl, hH, ⟨b1, b2, b3, b4⟩, hz, q⟩ := h
  obtain ⟨u1, rfl, r1⟩ := r.one
  cases r1
  obtain ⟨t, u, v, e⟩ := I.hok p _ hH
  have hn : Builtin.Range.rangeSize lo hi 1 = ((hi - lo).toNat : Nat) := by rw [rangeSize_one]; split <;> omega
  have hz2 : (hi - lo).toNat ≤ 2 ^ 24 := Nat.le_trans hz (by decide)
  refine PySem.call_list_range (n := (hi - lo).toNat) (I.ok.hd hc) e (small_one b1 b2 b3 b4) (by rw [hn]) hz2 fun h' tk acc c' k he hi' => ?_
  obtain ⟨h1, h2⟩ := hi'
  refine ⟨.ref _, _, I.laid (o := .lst (intsV lo (hi - lo).toNat)) k (Nat.le_refl _) ⟨by unfold intsV; rw [List.length_map, List.length_range]; exact hz, acc.toList, c', vals_of (by simp [intsV, h1]) fun j x w e1 e2 => ?_, he⟩, rfl, q _ I.fresh⟩
  rw [Array.getElem?_toList] at e2
  obtain ⟨t', rfl⟩ := h2 j w e2
  unfold intsV at e1
  rw [List.getElem?_map] at e1
  cases e3 : (List.range (hi - lo).toNat)[j]? with
  | none => rw [e3] at e1; cases e1
  | some i =>
    rw [e3] at e1
    cases e1
    have := (List.getElem?_eq_some_iff.mp e3).2
    simp at this
    subst this
    exact ⟨t', by rw [Int.mul_one]⟩
theorem ints_rd (ρ : List Addr) (H : Hp) (lo : Int) (n : Nat) : RDs ρ H (rngD lo n) (intsV lo n) := rng_rd ρ H lo n
theorem boot_range3 : bootBuiltins "range" = some (.type "range") := by decide +kernel
noncomputable def eListR (r : Lo → Sto → Option ((Int × Nat) × Sto)) : EM := fun l S => (r l S).bind fun p => if p.1.2 ≤ sizeLine then some (.ref p.2.length, p.2 ++ [.lst (rngD p.1.1 p.1.2)]) else none
variable {a a2 : Expr} {mA : AM} {p p0 pos pos' : Pos}
theorem p3_listR1 (hc : X.calm = true) (hg : Gl X "list") (hm : X.mg "list" = none) (hgr : Gl X "range") (hmr : X.mg "range" = none) (ha : PA3 X [a] mA)
    (he : starEach [.Call (.Name "range" p0) [a] [] pos'] X.env = [(false, eval (.Call (.Name "range" p0) [a] [] pos') X.env)] := by rfl)
    (he2 : starEach [a] X.env = (false, eval a X.env) :: starEach [] X.env := by rfl) :
    PE3 X (.Call (.Name "list" p) [.Call (.Name "range" p0) [a] [] pos'] [] pos) (eListR (rng1 mA)) :=
  PE.imp (pe_callTy (call_list_rng hc) hg hm boot_list' (pa_cons (pe_callTy call_rng1 hgr hmr boot_range3 ha (by decide) (by decide) he2 rfl) pa_nil he) (by decide) (by decide) he rfl) fun σ H Q hx2_ => by
    obtain ⟨ρ, l, S, v, S', sim, ro, hm, p⟩ := hx2_
    obtain ⟨⟨⟨lo, n⟩, S1⟩, q1, hm⟩ := bnd hm
    obtain ⟨⟨xs, S2⟩, q2, q1⟩ := bnd q1
    dsimp only at q1 hm
    obtain ⟨hz, e⟩ := ite_some hm
    cases e
    split at q1
    · rename_i j
      obtain ⟨hb, e⟩ := ite_some q1
      cases e
      refine ⟨ρ, l, S, [.int j], S1, sim, ro, q2, fun ρ1 H1 vs e1 s1 r1 => ?_⟩
      obtain ⟨v, rfl, rv⟩ := r1.one
      cases rv
      refine ⟨j, rfl, fun r hr => ⟨r, 0, j, rfl, upd_same, ⟨by decide, by decide, hb.1, hb.2⟩, by simpa using hz, ?_⟩⟩
      have := new_lst (s1.laid (u := .rng 0 j) hr) (ints_rd ρ1 _ 0 j.toNat) (p.ext (e1.trans (ext_new hr)))
      simpa using this
    · cases q1
end
end L3
namespace L3
open PySem PySem.Spec PyProof.Rows L2
noncomputable def isT : D → Bool
  | .bl b => b
  | _ => false
noncomputable def isBlD : D → Bool
  | .bl _ => true
  | _ => false
noncomputable def vT : V → Bool
  | .bl b => b
  | _ => false
noncomputable def isBlV : V → Bool
  | .bl _ => true
  | _ => false
noncomputable def fAll : FM
  | [.ref n], S => (lstOf S n).bind fun xs => if xs.all isBlD = true then some (.bl (xs.all isT), S) else none
  | _, _ => none
theorem vt_ok {ρ : List Addr} {H : Hp} {x : D} {x' : V} (r : RD ρ H x x') : vT x' = isT x ∧ isBlV x' = isBlD x := by
  cases r <;> exact ⟨rfl, rfl⟩
theorem vts_ok {ρ : List Addr} {H : Hp} : ∀ {xs : List D} {vs : List V}, RDs ρ H xs vs → vs.all vT = xs.all isT ∧ vs.any vT = xs.any isT ∧ vs.all isBlV = xs.all isBlD
  | _, _, .nil => ⟨rfl, rfl, rfl⟩
  | _, _, .cons r q => by
    obtain ⟨h1, h2⟩ := vt_ok r
    obtain ⟨h3, h4, h5⟩ := vts_ok q
    simp only [List.all_cons, List.any_cons, h1, h2, h3, h4, h5, and_self]
section
variable {X : Cx}
theorem all_get {ys : List V} (tr : Nat → Bool) (h : ∀ (i : Nat) y, ys[i]? = some y → tr i = vT y) : (List.range ys.length).all tr = ys.all vT ∧ (List.range ys.length).any tr = ys.any vT := by
  have e : (List.range ys.length).map tr = ys.map vT := by
    apply List.ext_getElem?
    intro i
    rw [List.getElem?_map, List.getElem?_map]
    by_cases hi : i < ys.length
    · rw [List.getElem?_range hi, List.getElem?_eq_getElem hi]
      simp [h i _ (List.getElem?_eq_getElem hi)]
    · rw [List.getElem?_eq_none_iff.mpr (by simpa using hi), List.getElem?_eq_none_iff.mpr (by simpa using hi)]; rfl
  have a1 : (List.range ys.length).all tr = ((List.range ys.length).map tr).all id := by rw [List.all_map]; rfl
  have a2 : ys.all vT = (ys.map vT).all id := by rw [List.all_map]; rfl
  have a3 : (List.range ys.length).any tr = ((List.range ys.length).map tr).any id := by rw [List.any_map]; rfl
  have a4 : ys.any vT = (ys.map vT).any id := by rw [List.any_map]; rfl
  exact ⟨by rw [a1, a2, e], by rw [a3, a4, e]⟩
noncomputable def rAll (K : PySem.W.Frag) (f : List V → Bool) : List V → Hp → VK → Prop := fun xs H Q => ∃ p ys, xs = [.ref p] ∧ SqL K H p ys ∧ ys.all isBlV = true ∧ Q (.bl (f ys)) H
theorem all_walk {pins : List (Addr × Obj)} {s : Shared} {σ : St} {H : Hp} {p : Addr} {ys : List V} {E : Value → Shared → Prop} {R : Bool → Bool → Shared → Prop} (hc : X.calm = true) (I : Inv X pins σ H s) (hq : SqL X.K H p ys) (hb : ys.all isBlV = true)
    (h : ∀ s', Inv X pins σ H s' → R (ys.all vT) (ys.any vT) s') :
    wpAny (model X.prog X.w) X.A.in1 (pyIter (.ref p)) (fun it s₂ => ∃ I fp wr n P St tr, it = .ref I ∧ Walks X.prog X.w X.A.in1 I fp wr n P St ∧ St 0 s₂.heap ∧ TruthOf X.prog X.w X.A.in1 P tr ∧
      ∀ h' tk, (∀ b o, b ∉ wr → s₂.heap.get? b = some o → h'.get? b = some o) → R ((List.range n).all tr) ((List.range n).any tr) { s₂ with heap := h', toks := tk }) E s := by
  obtain ⟨its, rv, pl, hz⟩ := I.list hq
  refine wpAny_pyIter_list pl.isList ?_
  have hne : p ≠ s.heap.objs.size := by
    obtain ⟨o, ho, _⟩ := pl.isList
    exact Nat.ne_of_lt (Heap.lt_size ho)
  have I1 : Inv X pins σ H { s with heap := s.heap.push { cls := .type "list_iterator", data := .fields #[.ref p, rawInt 0] } } := I.kept (t' := s.toks) fun b o e => Heap.get?_push_of_some _ e
  have fp := I.fpOk (Nat.le_refl s.heap.objs.size) I.fresh
  refine ⟨_, _, _, its.toArray.size, _, _, fun i => match its[i]? with | some (.bool b) => b | _ => false, rfl, Walks.list (A := X.A.in1) (I.ok.hd hc) s.heap.objs.size p hne its.toArray, ?_, ?_, ?_⟩
  · obtain ⟨o, ho, hc', n, hd⟩ := pl.isList
    exact ⟨⟨_, Heap.get?_push_size _ rfl, rfl, rfl⟩, ⟨o, Heap.get?_push_of_some _ ho, hc', n, hd⟩⟩
  · intro i v s' Q E' hP hQ
    have e1 : its[i]? = some v := by simpa using hP
    have hl := rv.length
    have hi : i < ys.length := by rw [hl]; exact (List.getElem?_eq_some_iff.mp e1).1
    obtain ⟨u, hu, ru⟩ := rv.get (List.getElem?_eq_getElem hi)
    rw [e1] at hu; cases hu
    have hb2 := List.all_eq_true.mp hb _ (List.getElem_mem hi)
    dsimp only at hQ
    rw [e1] at hQ
    revert ru hb2
    generalize ys[i] = y
    intro ru hb2
    cases y with
    | bl b => cases ru; exact wpAny_truthy_bool hQ
    | _ => exact absurd (show false = true from hb2) Bool.false_ne_true
  · intro h' tk k
    have hs : its.toArray.size = ys.length := by rw [List.size_toArray, rv.length]
    obtain ⟨a1, a2⟩ := all_get (ys := ys) (fun i => match its[i]? with | some (.bool b) => b | _ => false) (fun i y hy => by
      obtain ⟨u, hu, ru⟩ := rv.get hy
      have hb2 := List.all_eq_true.mp hb _ (List.mem_of_getElem? hy)
      rw [hu]
      cases y with
      | bl b => cases ru; rfl
      | _ => exact absurd (show false = true from hb2) Bool.false_ne_true)
    rw [hs, a1, a2]
    exact h _ (I1.turned (t' := tk) (fun b o hb' e => k b o (by simpa using hb') e) fp.1 fp.2.1 fp.2.2.2.1 fp.2.2.2.2.1 fp.2.2.2.2.2)
theorem call_all3 (hc : X.calm = true) : CallR X (.builtin "all") (rAll X.K fun ys => ys.all vT) := by
  intro pins s σ H xs us Q I r h
  obtain ⟨p, ys, rfl, hq, hb, q⟩ := h
  obtain ⟨u1, rfl, r1⟩ := r.one
  cases r1
  exact PySem.call_all_walk (all_walk (R := fun a _ s' => EP X pins σ Q (.bool a) s') hc I hq hb fun s' I' => ⟨.bl _, H, I', rfl, q⟩)
theorem fn3_all {K : PySem.W.Frag} : Fn3 K fAll (rAll K fun ys => ys.all vT) := by
  intro ρ S H xs vs v S' Q sim r h p
  unfold fAll at h
  split at h
  · obtain ⟨ys, h1, h⟩ := bnd h
    obtain ⟨hb, e⟩ := ite_some h
    cases e
    obtain ⟨w, rfl, rw'⟩ := r.one
    obtain ⟨a, us, ha, sq, r2⟩ := sim.lstOf h1
    obtain ⟨t1, t2, t3⟩ := vts_ok r2
    cases rw' with
    | ref hn =>
      rw [ha] at hn; cases hn
      exact ⟨_, us, rfl, sq, by rw [t3]; exact hb, by dsimp only; rw [t1]; exact p ρ H _ (Ext.refl ..) sim (.bl _)⟩
  · cases h
theorem boot_all3 : bootBuiltins "all" = some (.builtin "all") := by decide +kernel
variable {a : Expr} {es : List Expr} {mA : AM} {p pos : Pos}
theorem p3_all (hc : X.calm = true) (hg : Gl X "all") (hm : X.mg "all" = none) (ha : PA3 X (a :: es) mA) (he : starEach (a :: es) X.env = (false, eval a X.env) :: starEach es X.env := by rfl) (hpl : (backTo pos (starEach es X.env)).any (·.1) = false := by rfl) : PE3 X (.Call (.Name "all" p) (a :: es) [] pos) (eCall fAll mA) :=
  p3_callB (call_all3 hc) fn3_all hg hm boot_all3 ha (by decide) (by decide) he hpl
end
noncomputable def dNeg : D → Sto → Option (D × Sto)
  | .int i, S => some (.int (-i), S)
  | _, _ => none
theorem p3_usub {X : Cx} {a : Expr} {ma : EM} {pos : Pos} (ha : PE3 X a ma) : PE3 X (.UnaryOp .USub a pos) (eUn dNeg ma) := PE.imp (pe_un un_neg ha) fun σ H Q hx1_ => by
  obtain ⟨ρ, l, S, v, S', sim, ro, hm, p⟩ := hx1_
  obtain ⟨⟨x, S1⟩, h1, hm⟩ := bnd hm
  refine ⟨ρ, l, S, x, S1, sim, ro, h1, fun ρ1 H1 x' e1 s1 r1 => ?_⟩
  cases r1 with
  | int i => cases hm; exact ⟨i, rfl, p ρ1 H1 _ e1 s1 (.int _)⟩
  | _ => cases hm
end L3
namespace L3
open PySem PySem.Spec PyProof.Rows L2
theorem big3 {X : Cx} {pins : List (Addr × Obj)} {σ : St} {H : Hp} {s : Shared} (I : Inv X pins σ H s) : sysModules < s.heap.objs.size := by
  have h : mainGlobals < s.heap.objs.size := (I.mod.glob.keeps I.bk).lt
  exact Nat.lt_trans (by decide) h
section
variable {X : Cx} {pos : Pos}
theorem pe_dict0 : PE X (.Dict [] [] pos) (fun _ H Q => ∀ p, H p = none → Q (.ref p) (upd H p (.dK []))) := fun pins s σ H Q I h =>
  wpAny_Dict_empty ⟨.ref s.heap.objs.size, _, I.laid (a := s.heap.objs.size) (o := .dK []) (t' := s.toks) (fun _ _ q => Heap.get?_push_of_some _ q) (Nat.le_refl _)
    ⟨Nat.zero_le _, beq_eq_false_iff_ne.mpr (Ne.symm (Nat.ne_of_lt (big3 I))), [], .nil, Heap.DictOf.new s.heap⟩, rfl, h _ I.fresh⟩
noncomputable def eDict0 : EM := fun _ S => some (.ref S.length, S ++ [.dct []])
theorem p3_dict0 : PE3 X (.Dict [] [] pos) eDict0 := PE.imp pe_dict0 fun σ H Q hx1_ => by
  obtain ⟨ρ, l, S, v, S', sim, ro, hm, p⟩ := hx1_
  cases hm
  intro a ha
  exact p (ρ ++ [a]) _ _ (ext_newG ha) (sim.pushG ha ⟨[], upd_same, .nil⟩) (.ref (by rw [← sim.len]; exact get_self ρ a))
end
noncomputable def dNeNil : D → D → Sto → Option (D × Sto)
  | .ref n, .ref m, S => match S[n]?, S[m]? with
    | some (.lst xs), some (.lst []) => some (.bl (!xs.isEmpty), S)
    | _, _ => none
  | _, _, _ => none
noncomputable def rNeNil : R2 := fun x y H Q => ∃ a b xs, x = .ref a ∧ y = .ref b ∧ H a = some (.lst xs) ∧ H b = some (.lst []) ∧ Q (.bl (!xs.isEmpty)) H
section
variable {X : Cx} {a b : Expr} {ma mb : EM} {pos : Pos} {k : Nat}
theorem op_neNil (hr : Room k X.A) : OpR X (compareOp .NotEq) rNeNil := by
  intro pins s σ H x y v u Q I rx ry h
  obtain ⟨a, b, xs, rfl, rfl, ha, hb, q⟩ := h
  cases rx; cases ry
  obtain ⟨z, its, n, r, hl, e⟩ := I.lstM ha
  obtain ⟨z2, its2, n2, r2, hl2, e2⟩ := I.lstM hb
  cases r2
  have hu : X.A.units < cLine := by have := hr.un; omega
  have l1 : s.heap.IsList a its.toArray := ⟨_, e, rfl, n, rfl⟩
  have l2 : s.heap.IsList b ([] : List Value).toArray := ⟨_, e2, rfl, n2, rfl⟩
  cases xs with
  | nil =>
    cases r
    have := SeqAt.RcNeAt.lists (A := X.A) (e := fun _ => true) l1 l2 rfl hu (fun j h1 _ => by simp at h1)
    exact this X.prog X.w X.xe _ ⟨.bl _, H, I, rfl, q⟩
  | cons y ys =>
    cases r with
    | cons r1 r2 =>
      exact SeqAt.RcNeAt.lists_lengths (A := X.A) l1 l2 (by simp) hu X.prog X.w X.xe _ ⟨.bl _, H, I, rfl, q⟩
theorem op3_neNil {K : PySem.W.Frag} : Op3 K dNeNil rNeNil := by
  intro ρ S H x y x' y' v S' Q sim rx ry h p
  unfold dNeNil at h
  split at h
  · split at h
    · rename_i n m S xs e1 e2
      cases h
      obtain ⟨a, us, ha, hH, r2⟩ := sim.lst e1
      obtain ⟨b, ws, hb, hH2, r3⟩ := sim.lst e2
      cases r3
      cases rx with
      | ref hn =>
        rw [ha] at hn; cases hn
        cases ry with
        | ref hm =>
          rw [hb] at hm; cases hm
          refine ⟨a, b, us, rfl, rfl, hH, hH2, ?_⟩
          have : us.isEmpty = xs.isEmpty := by cases r2 <;> rfl
          rw [this]
          exact p ρ H _ (Ext.refl ..) sim (.bl _)
    · cases h
  · cases h
theorem t3_neNil (hr : Room k X.A) (ha : PE3 X a ma) (hb : PE3 X b mb) : PT3 X (.Compare a [.NotEq] [b] pos) (tE (eOp dNeNil ma mb)) := t3_cmp (op_neNil hr) op3_neNil ha hb (nomark b)
end
mutual
noncomputable def pyT (S : Sto) : Nat → D → Option PyData
  | 0, _ => none
  | _ + 1, .non => some .none
  | _ + 1, .bl b => some (.bool b)
  | _ + 1, .int i => if i.natAbs.log2 < 1920 then some (.int i) else none
  | _ + 1, .str x => some (.str x)
  | k + 1, .tup xs => (pyTs S k xs).bind fun ds => some (.tuple ds)
  | k + 1, .ref n => match S[n]? with
    | some (.dct []) => some (.dict [])
    | some (.dct [(Sum.inl i, d)]) => if i.natAbs.log2 < 1920 then (pyT S k d).bind fun p => some (.dict [(.int i, p)]) else none
    | _ => none
  | _ + 1, .fn _ => none
termination_by k => (k, 0)
noncomputable def pyTs (S : Sto) : Nat → List D → Option (List PyData)
  | _, [] => some []
  | k, x :: xs => (pyT S k x).bind fun d => (pyTs S k xs).bind fun ds => some (d :: ds)
termination_by k xs => (k, xs.length + 1)
end
mutual
theorem py_agree (S : Sto) : ∀ (k : Nat) (d : D) (p q : PyData), pyT S k d = some p → pyOf S k d = some q → p = q
  | 0, d, p, q, h, _ => by unfold pyT at h; cases h
  | k + 1, .non, p, q, h, h' => by unfold pyT at h; unfold pyOf at h'; cases h; cases h'; rfl
  | k + 1, .bl b, p, q, h, h' => by unfold pyT at h; unfold pyOf at h'; cases h; cases h'; rfl
  | k + 1, .int i, p, q, h, h' => by
    unfold pyT at h; unfold pyOf at h'
    obtain ⟨_, rfl⟩ := ite_some h
    obtain ⟨_, rfl⟩ := ite_some h'
    rfl
  | k + 1, .str x, p, q, h, h' => by unfold pyT at h; unfold pyOf at h'; cases h; cases h'; rfl
  | k + 1, .fn a, p, q, h, h' => by unfold pyT at h; cases h
  | k + 1, .tup xs, p, q, h, h' => by
    unfold pyT at h; unfold pyOf at h'
    obtain ⟨ds, h1, h⟩ := bnd h
    obtain ⟨es, h2, h'⟩ := bnd h'
    cases h; cases h'
    rw [py_agrees S k xs ds es h1 h2]
  | k + 1, .ref n, p, q, h, h' => by
    unfold pyT at h; unfold pyOf at h'
    obtain ⟨xs, h1, h'⟩ := bnd h'
    unfold lstOf at h1
    split at h
    · rename_i e; rw [e] at h1; cases h1
    · rename_i e; rw [e] at h1; cases h1
    · cases h
termination_by k => (k, 0)
theorem py_agrees (S : Sto) : ∀ (k : Nat) (xs : List D) (p q : List PyData), pyTs S k xs = some p → pyAll S k xs = some q → p = q
  | k, [], p, q, h, h' => by unfold pyTs at h; unfold pyAll at h'; cases h; cases h'; rfl
  | k, x :: xs, p, q, h, h' => by
    unfold pyTs at h; unfold pyAll at h'
    obtain ⟨d, h1, h⟩ := bnd h
    obtain ⟨ds, h2, h⟩ := bnd h
    obtain ⟨e, h3, h'⟩ := bnd h'
    obtain ⟨es, h4, h'⟩ := bnd h'
    cases h; cases h'
    rw [py_agree S k x d e h1 h3, py_agrees S k xs ds es h2 h4]
termination_by k xs => (k, xs.length + 1)
end
section
variable {X : Cx} {pins : List (Addr × Obj)} {σ : St} {H : Hp} {s : Shared} {ρ : List Addr} {S : Sto}
mutual
theorem readsT_of (I : Inv X pins σ H s) (sim : Sim X.K ρ S H) : ∀ (k : Nat) (d : D) (v : V) (u : Value) (p : PyData), RD ρ H d v → RelV v u → pyT S k d = some p → (∃ as, Reads s.heap u p as ∧ sysModules ∉ as) ∧ p.showable = true ∧ p.depth ≤ k
  | 0, d, v, u, p, _, _, h => by unfold pyT at h; cases h
  | k + 1, .non, v, u, p, r, e, h => by
    unfold pyT at h; cases h; cases r; cases e
    exact ⟨⟨_, .none, by simp⟩, rfl, Nat.zero_le _⟩
  | k + 1, .bl b, v, u, p, r, e, h => by
    unfold pyT at h; cases h; cases r; cases e
    exact ⟨⟨_, .bool b, by simp⟩, rfl, Nat.zero_le _⟩
  | k + 1, .int i, v, u, p, r, e, h => by
    unfold pyT at h
    obtain ⟨hz, e2⟩ := ite_some h
    cases e2; cases r
    obtain ⟨t, rfl⟩ := e
    exact ⟨⟨_, .int i t, by simp⟩, by unfold PyData.showable; exact decide_eq_true hz, Nat.zero_le _⟩
  | k + 1, .str x, v, u, p, r, e, h => by
    unfold pyT at h; cases h; cases r
    obtain ⟨t, rfl⟩ := e
    exact ⟨⟨_, .str x t, by simp⟩, rfl, Nat.zero_le _⟩
  | k + 1, .fn _, v, u, p, r, e, h => by unfold pyT at h; cases h
  | k + 1, .tup xs, v, u, p, r, e, h => by
    unfold pyT at h
    obtain ⟨ds, h1, h⟩ := bnd h
    cases h
    cases r with
    | tup ha r =>
      cases e
      obtain ⟨its, rv, ⟨o, ho, hc, n, hd⟩, hz⟩ := I.tuple (SqT.of ha)
      obtain ⟨⟨as, h2, hn⟩, h3, h5⟩ := readsTs_of I sim k xs _ _ ds r rv h1
      refine ⟨⟨as, .tuple ho hc hd (by simpa using h2), hn⟩, ?_, ?_⟩
      · unfold PyData.showable; exact h3
      · unfold PyData.depth; omega
  | k + 1, .ref n, v, u, p, r, e, h => by
    unfold pyT at h
    split at h
    · rename_i e0
      cases h
      cases r with
      | @ref _ a hn =>
        cases e
        obtain ⟨vs, hH, r2⟩ := sim.at' n a _ hn e0
        obtain ⟨_, hd, ws, r0, o, es, ep, ho, hx, hdt, _, hp, _⟩ := I.hok a _ hH
        cases r0
        cases hes : es.toList with
        | nil =>
          refine ⟨⟨_, .dict (kvs := []) ho hx.1 hdt (by rw [hes]; exact .nil) (by rw [hes]; exact .nil), ?_⟩, rfl, by unfold PyData.depth PyData.depthKv; omega⟩
          simp only [List.append_nil, List.mem_singleton]
          exact fun z => by subst z; simp at hd
        | cons e1 e2 => rw [hes] at hp; cases hp
    · rename_i i d0 e0
      obtain ⟨hi, h⟩ : i.natAbs.log2 < 1920 ∧ ((pyT S k d0).bind fun p => some (PyData.dict [(.int i, p)])) = some p := by
        by_cases hi : i.natAbs.log2 < 1920
        · rw [if_pos hi] at h; exact ⟨hi, h⟩
        · rw [if_neg hi] at h; cases h
      obtain ⟨p0, h1, h⟩ := bnd h
      cases h
      cases r with
      | @ref _ a hn =>
        cases e
        obtain ⟨vs, hH, r2⟩ := sim.at' n a _ hn e0
        obtain ⟨w, rfl, rw'⟩ := r2.one
        obtain ⟨_, hd, ws, r0, o, es, ep, ho, hx, hdt, _, hp, _⟩ := I.hok a _ hH
        cases r0 with
        | @cons _ q0 _ _ hq t =>
          cases t
          obtain ⟨q1, q2⟩ := q0
          obtain ⟨hq1, hq2⟩ := hq
          cases hes : es.toList with
          | nil => rw [hes] at hp; cases hp
          | cons e1 e2 =>
            rw [hes] at hp
            cases hp with
            | cons hk hval ht =>
              cases ht
              have hq1 : Sum.inl i = q1 := hq1
              subst hq1
              have hval : e1.val = q2 := hval
              obtain ⟨⟨as, k1, k2⟩, k3, k4⟩ := readsT_of I sim k d0 w q2 p0 rw' hq2 h1
              obtain ⟨i', t', e3, e4⟩ | ⟨x', t', e3, e4⟩ := keyIs_shape (show keyIs (Sum.inl i) e1.key = true from hk)
              · cases e3
                refine ⟨⟨_, .dict (kvs := [(.int i, p0)]) ho hx.1 hdt (as := []) (bs := as ++ []) ?_ ?_, ?_⟩, ?_, ?_⟩
                · rw [hes]
                  simp only [List.map_cons, List.map_nil]
                  rw [e4]
                  have := ReadsAll.cons (h := s.heap) (Reads.int i t') ReadsAll.nil
                  simpa using this
                · rw [hes]
                  simp only [List.map_cons, List.map_nil]
                  rw [hval]
                  exact .cons k1 .nil
                · simp only [List.append_nil, List.mem_append, List.mem_cons, List.not_mem_nil, or_false, not_or]
                  exact ⟨fun z => by subst z; simp at hd, k2⟩
                · unfold PyData.showable PyData.showableKv PyData.showableKv
                  rw [k3]
                  have : (PyData.int i).showable = true := by unfold PyData.showable; exact decide_eq_true hi
                  rw [this]; rfl
                · unfold PyData.depth PyData.depthKv PyData.depthKv
                  have : (PyData.int i).depth = 0 := rfl
                  omega
              · cases e3
    · cases h
termination_by k => (k, 0)
theorem readsTs_of (I : Inv X pins σ H s) (sim : Sim X.K ρ S H) : ∀ (k : Nat) (xs : List D) (vs : List V) (us : List Value) (ds : List PyData), RDs ρ H xs vs → Vals vs us → pyTs S k xs = some ds → (∃ as, ReadsAll s.heap us ds as ∧ sysModules ∉ as) ∧ PyData.showableAll ds = true ∧ PyData.depthAll ds ≤ k
  | k, [], vs, us, ds, r, e, h => by
    unfold pyTs at h; cases h; cases r; cases e
    exact ⟨⟨_, .nil, by simp⟩, rfl, Nat.zero_le _⟩
  | k, x :: xs, vs, us, ds, r, e, h => by
    unfold pyTs at h
    obtain ⟨d, h1, h⟩ := bnd h
    obtain ⟨ds', h2, h⟩ := bnd h
    cases h
    cases r with
    | cons r1 r2 =>
      cases e with
      | cons e1 e2 =>
        obtain ⟨⟨as, q1, q5⟩, q2, q4⟩ := readsT_of I sim k x _ _ d r1 e1 h1
        obtain ⟨⟨bs, p1, p5⟩, p2, p4⟩ := readsTs_of I sim k xs _ _ ds' r2 e2 h2
        refine ⟨⟨_, .cons q1 p1, by simp only [List.mem_append, not_or]; exact ⟨q5, p5⟩⟩, ?_, ?_⟩
        · unfold PyData.showableAll; rw [q2, p2]; rfl
        · unfold PyData.depthAll; omega
termination_by k xs => (k, xs.length + 1)
end
end
noncomputable def fReprT : FM
  | [x], S => (pyT S 140 x).bind fun d => if d.shown.length ≤ sizeLine then some (.str d.shown, S) else none
  | _, _ => none
section
variable {X : Cx} {a : Expr} {es : List Expr} {mA : AM} {pos p : Pos}
theorem call_reprT {k : Nat} (hr : Room k X.A) : CallR X (.builtin "repr") (fun xs H Q => ∃ v ρ S d pd, xs = [v] ∧ Sim X.K ρ S H ∧ RD ρ H d v ∧ pyT S 140 d = some pd ∧ pd.shown.length ≤ sizeLine ∧ Q (.str pd.shown) H) := by
  intro pins s σ H xs us Q I r h
  obtain ⟨v, ρ, S, d, pd, rfl, sim, rd, hp, hz, q⟩ := h
  obtain ⟨u, rfl, ru⟩ := vals1 r
  have key := readsT_of I sim 140 d v u pd rd ru hp
  have byRef : ∀ a, u = .ref a → wpAny (model X.prog X.w) X.A (call (.builtin "repr") [u]) (EP X pins σ Q) X.xe s := fun b hb => by
    subst hb
    obtain ⟨⟨as, h1, hn⟩, h2, h4⟩ := key
    have hu : X.A.units + (pd.depth + 1) < cLine := by have := hr.un; omega
    refine repr_of_reads' h1 h2 (fun _ => hn) hr.gd hu (fun _ _ e => e) (fun h' u tk hk => ?_) hz
    exact ⟨.str pd.shown, H, I.kept hk, ⟨u, rfl⟩, q⟩
  have hp' := hp
  cases rd with
  | non => cases ru; unfold pyT at hp'; cases hp'; exact P.repr_of_none ⟨.str _, H, I.tok _, ⟨_, rfl⟩, q⟩
  | bl b => cases ru; unfold pyT at hp'; cases hp'; exact P.repr_of_bool ⟨.str _, H, I.tok _, ⟨_, by cases b <;> rfl⟩, q⟩
  | int i =>
    obtain ⟨t, rfl⟩ := ru
    unfold pyT at hp'
    obtain ⟨hi, e⟩ := ite_some hp'
    cases e
    exact P.repr_of_int hi ⟨.str _, H, I.tok _, ⟨_, rfl⟩, q⟩
  | str x => obtain ⟨t, rfl⟩ := ru; unfold pyT at hp'; cases hp'; exact P.repr_of_str ⟨.str _, H, I.tok _, ⟨_, rfl⟩, q⟩ hz
  | tup ha r => exact byRef _ ru
  | ref hn => exact byRef _ ru
  | fn b => unfold pyT at hp'; cases hp'
theorem fn3_reprT {K : PySem.W.Frag} : Fn3 K fReprT (fun xs H Q => ∃ v ρ S d pd, xs = [v] ∧ Sim K ρ S H ∧ RD ρ H d v ∧ pyT S 140 d = some pd ∧ pd.shown.length ≤ sizeLine ∧ Q (.str pd.shown) H) := by
  intro ρ S H xs vs v S' Q sim r h p
  unfold fReprT at h
  split at h
  · obtain ⟨pd, h1, h⟩ := bnd h
    obtain ⟨hz, e⟩ := ite_some h
    cases e
    obtain ⟨w, rfl, rw'⟩ := r.one
    exact ⟨w, ρ, _, _, pd, rfl, sim, rw', h1, hz, p ρ H _ (Ext.refl ..) sim (.str _)⟩
  · cases h
theorem CallR.or3 {f : Value} {r r' : List V → Hp → VK → Prop} (h : CallR X f r) (h' : CallR X f r') : CallR X f (fun xs H Q => r xs H Q ∨ r' xs H Q) := by
  intro pins s σ H xs us Q I rr q
  rcases q with q | q
  · exact h pins s σ H xs us Q I rr q
  · exact h' pins s σ H xs us Q I rr q
noncomputable def fReprD : FM := fun xs S => match fReprT xs S with | some v => some v | none => fRepr xs S
theorem fn3_reprD {K : PySem.W.Frag} {r r' : List V → Hp → VK → Prop} (h : Fn3 K fReprT r) (h' : Fn3 K fRepr r') : Fn3 K fReprD (fun xs H Q => r xs H Q ∨ r' xs H Q) := by
  intro ρ S H xs vs v S' Q sim rr hm p
  unfold fReprD at hm
  cases e : fReprT xs S with
  | some w => rw [e] at hm; cases hm; exact .inl (h ρ S H xs vs _ _ Q sim rr e p)
  | none => rw [e] at hm; exact .inr (h' ρ S H xs vs _ _ Q sim rr hm p)
theorem p3_reprD {k : Nat} (hr : Room k X.A) (hg : Gl X "repr") (hm : X.mg "repr" = none) (ha : PA3 X (a :: es) mA) (he : starEach (a :: es) X.env = (false, eval a X.env) :: starEach es X.env := by rfl) (hpl : (backTo pos (starEach es X.env)).any (·.1) = false := by rfl) : PE3 X (.Call (.Name "repr" p) (a :: es) [] pos) (eCall fReprD mA) :=
  p3_callB (CallR.or3 (call_reprT hr) (call_repr3 hr)) (fn3_reprD fn3_reprT fn3_repr) hg hm boot_repr' ha (by decide) (by decide) he hpl
end
theorem reprD_ok {S : Sto} {x : D} {p : PyData} {Q : D → Sto → Prop} (h : pyOf S 140 x = some p ∨ pyT S 140 x = some p) (hz : p.shown.length ≤ sizeLine) : Wo (fReprD [x] S) Q = Q (.str p.shown) S := by
  have : fReprD [x] S = some (.str p.shown, S) := by
    unfold fReprD
    rcases h with h | h
    · cases e : pyT S 140 x with
      | some q =>
        have := py_agree S 140 x q p e h
        subst this
        have : fReprT [x] S = some (.str q.shown, S) := by unfold fReprT; dsimp only; rw [e]; show (if _ then _ else _) = _; rw [if_pos hz]
        rw [this]
      | none =>
        have : fReprT [x] S = none := by unfold fReprT; dsimp only; rw [e]; rfl
        rw [this]
        unfold fRepr; dsimp only; rw [h]; show (if _ then _ else _) = _; rw [if_pos hz]
    · have : fReprT [x] S = some (.str p.shown, S) := by unfold fReprT; dsimp only; rw [h]; show (if _ then _ else _) = _; rw [if_pos hz]
      rw [this]
  rw [this]; exact wo_some
end L3
namespace L3
open PySem PySem.Spec PyProof.Rows L2
section
variable {prog : Program} {w : World} {A : Around} {E : Value → Shared → Prop} {s : Shared}
end
section
variable {P : Program} {w : World} {K : PySem.W.Frag} {elts : List Expr} {z : Nat} {tp : Pos}
end
end L3
namespace L3
open PySem PySem.Spec PyProof.Rows L2
open AutoSeq1 (wpAny_loadPart')
section
variable {prog : Program} {w : World} {A : Around} {E : Value → Shared → Prop} {s : Shared}
end
section
variable {X : Cx} {elts : List Expr} {z : Nat} {tp : Pos}
end
section
variable {K : PySem.W.Frag}
end
section
variable {X : Cx} {elts : List Expr} {z : Nat} {tp : Pos} {a : Expr} {mA : AM} {g : GM} {b : SM} {body : List Stmt} {p0 pos' pos : Pos}
end
end L3
namespace L3
open PySem PySem.Spec PyProof.Rows L2
section
variable {prog : Program} {w : World} {A : Around} {E : Value → Shared → Prop} {s : Shared}
end
section
variable {X : Cx} {gs : GsM} {es : List Expr} {k n : Nat} {pos : Pos}
theorem PG.or {tg : Expr} {t u : TG} (h : PG X tg t) (h' : PG X tg u) : PG X tg (fun v σ H Q => t v σ H Q ∨ u v σ H Q) := by
  intro pins s σ H v w Q I r q
  rcases q with q | q
  · exact h pins s σ H v w Q I r q
  · exact h' pins s σ H v w Q I r q
end
section
variable {X : Cx} {a : Expr} {ma : EM} {lo hi : Option Expr} {ml mh : OM} {p2 pos : Pos}
end
end L3
namespace L3
open PySem PySem.Spec PyProof.Rows L2
section
variable {X : Cx} {a b : Expr} {ma mb : EM} {mA : AM} {es : List Expr} {pos p : Pos}
end
noncomputable def dIxS : D → D → Sto → Option (D × Sto)
  | .str z, .int i, S => if z.length ≤ sizeLine then (atI z.cps.toList i).bind fun c => some (.str ⟨#[c]⟩, S) else none
  | _, _, _ => none
noncomputable def dIxA : D → D → Sto → Option (D × Sto) := fun x y S => match dIx x y S with | some v => some v | none => dIxS x y S
theorem op3_ixS {K : PySem.W.Frag} : Op3 K dIxS rIxS := by
  intro ρ S H x y x' y' v S' Q sim rx ry h p
  unfold dIxS at h
  split at h
  · cases rx; cases ry
    split at h
    · rename_i hz
      obtain ⟨c, h1, h⟩ := bnd h
      cases h
      exact ⟨_, _, c, rfl, rfl, hz, h1, p ρ H _ (Ext.refl ..) sim (.str _)⟩
    · cases h
  · cases h
theorem op3_ixA {K : PySem.W.Frag} : Op3 K dIxA (rIx K) := by
  intro ρ S H x y x' y' v S' Q sim rx ry hm p
  unfold dIxA at hm
  cases e : dIx x y S with
  | some w => rw [e] at hm; cases hm; exact op3_ix ρ S H x y x' y' _ _ Q sim rx ry e p
  | none => rw [e] at hm; exact .inr (.inr (op3_ixS ρ S H x y x' y' _ _ Q sim rx ry hm p))
noncomputable def fLenA : FM
  | [.str z], S => if z.length ≤ sizeLine then some (.int z.length, S) else none
  | xs, S => fLen xs S
noncomputable def fStr : FM
  | [.int i], S => if i.natAbs.log2 < 1920 then some (.str (toString i), S) else none
  | [.str z], S => none
  | _, _ => none
section
variable {X : Cx} {a b : Expr} {ma mb : EM} {mA : AM} {es : List Expr} {pos p : Pos} {K : PySem.W.Frag}
theorem p3_ixA (ha : PE3 X a ma) (hb : PE3 X b mb) (hs : PlainIx b := by intro _ _; rfl) : PE3 X (.Subscript a b pos) (eOp dIxA ma mb) := PE.imp (pe_ix ix_seq ha hb hs) (te_op op3_ixA)
theorem fn3_lenA : Fn3 K fLenA (fun xs H Q => (∃ p ys, xs = [.ref p] ∧ (SqL K H p ys ∨ SqT K H p ys) ∧ Q (.int ys.length) H) ∨ ∃ z, xs = [.str z] ∧ z.length ≤ sizeLine ∧ Q (.int z.length) H) := by
  intro ρ S H xs vs v S' Q sim r h p
  unfold fLenA at h
  split at h
  · obtain ⟨hz, e⟩ := ite_some h
    cases e
    obtain ⟨w, rfl, rw'⟩ := r.one
    cases rw'
    exact .inr ⟨_, rfl, hz, p ρ H _ (Ext.refl ..) sim (.int _)⟩
  · exact .inl (fn3_len ρ S H _ vs v S' Q sim r h p)
theorem p3_lenA (hg : Gl X "len") (hm : X.mg "len" = none) (ha : PA3 X (a :: es) mA) (he : starEach (a :: es) X.env = (false, eval a X.env) :: starEach es X.env := by rfl) (hpl : (backTo pos (starEach es X.env)).any (·.1) = false := by rfl) : PE3 X (.Call (.Name "len" p) (a :: es) [] pos) (eCall fLenA mA) :=
  p3_callB (call_len_seq.or call_len_str) fn3_lenA hg hm PySem.boot_len ha (by decide) (by decide) he hpl
theorem fn3_str : Fn3 K fStr (fun xs H Q => ∃ i, xs = [.int i] ∧ i.natAbs.log2 < 1920 ∧ Q (.str (toString i)) H) := by
  intro ρ S H xs vs v S' Q sim r h p
  unfold fStr at h
  split at h
  · obtain ⟨hz, e⟩ := ite_some h
    cases e
    obtain ⟨w, rfl, rw'⟩ := r.one
    cases rw'
    exact ⟨_, rfl, hz, p ρ H _ (Ext.refl ..) sim (.str _)⟩
  · cases h
  · cases h
theorem p3_str1 (hg : Gl X "str") (hm : X.mg "str" = none) (ha : PA3 X (a :: es) mA) (he : starEach (a :: es) X.env = (false, eval a X.env) :: starEach es X.env := by rfl) (hpl : (backTo pos (starEach es X.env)).any (·.1) = false := by rfl) : PE3 X (.Call (.Name "str" p) (a :: es) [] pos) (eCall fStr mA) :=
  p3_callTy call_str_int fn3_str hg hm boot_str' ha (by decide) (by decide) he hpl
end
end L3
namespace L3
open PySem PySem.Spec PyProof.Rows L2
noncomputable def dKey : D → Option Key
  | .int i => some (.inl i)
  | .str x => some (.inr x)
  | _ => none
noncomputable def kvPut (kvs : List (Key × D)) (k : Key) (v : D) : List (Key × D) := if (kvs.any fun kv => decide (kv.1 = k)) = true then kvs.map (fun kv => if kv.1 = k then (kv.1, v) else kv) else kvs ++ [(k, v)]
noncomputable def dctOf (S : Sto) (n : Nat) : Option (List (Key × D)) := match S[n]? with
  | some (.dct kvs) => some kvs
  | _ => none
section
variable {K : PySem.W.Frag} {ρ : List Addr} {H : Hp} {S : Sto}
theorem Sim.dct {n : Nat} {kvs : List (Key × D)} (s : Sim K ρ S H) (h : S[n]? = some (.dct kvs)) : ∃ a vs, ρ[n]? = some a ∧ H a = some (.dK ((kvs.map (·.1)).zip vs)) ∧ RDs ρ H (kvs.map (·.2)) vs := by
  have hl : n < ρ.length := by rw [s.len]; exact (List.getElem?_eq_some_iff.mp h).1
  obtain ⟨vs, e, r⟩ := s.at' n _ _ (List.getElem?_eq_getElem hl) h
  exact ⟨_, vs, List.getElem?_eq_getElem hl, e, r⟩
end
section
variable {X : Cx} {a b e : Expr} {ma mb me : EM} {pos pos' : Pos} {k : Nat}
end
noncomputable def putD : D → D → D → Sto → Option Sto
  | .ref n, y, v, S => (dctOf S n).bind fun kvs => (dKey y).bind fun k => if kvs.length < sizeLine then some (S.set n (.dct (kvPut kvs k v))) else none
  | _, _, _, _ => none
noncomputable def gDPut (o i : EM) : GM := fun v l S => (o l S).bind fun p => (i l p.2).bind fun q => (putD p.1 q.1 v q.2).bind fun S' => some (l, S')
section
variable {X : Cx} {o i value : Expr} {mo mi mv : EM} {pos pos' : Pos} {k : Nat}
end
section
variable {X : Cx} {pos : Pos}
end
noncomputable def strsD : List D → Option (List Str)
  | [] => some []
  | .str z :: r => (strsD r).bind fun ts => some (z :: ts)
  | _ => none
noncomputable def mJoin : D → List D → Sto → Option (D × Sto)
  | .str z, [.ref n], S => (lstOf S n).bind fun xs => (strsD xs).bind fun ts => if (ts.map (·.length)).sum + ts.length * z.length ≤ 16777216 then some (.str (Str.join z ts), S) else none
  | _, _, _ => none
noncomputable def rJoin (K : PySem.W.Frag) : V → List V → Hp → VK → Prop := fun x vs H Q => ∃ z p ts, x = .str z ∧ vs = [.ref p] ∧ SqL K H p (ts.map V.str) ∧ (ts.map (·.length)).sum + ts.length * z.length ≤ 16777216 ∧ Q (.str (Str.join z ts)) H
theorem strs_are : ∀ {ts : List Str} {us : List Value}, Vals (ts.map V.str) us → StrsAre us ts
  | [], us, h => by cases h; exact .nil
  | t :: ts, us, h => by
    cases h with
    | cons r q => obtain ⟨k, rfl⟩ := r; exact .cons _ _ (strs_are q)
theorem strsD_rd {ρ : List Addr} {H : Hp} : ∀ {xs : List D} {ts : List Str} {vs : List V}, strsD xs = some ts → RDs ρ H xs vs → vs = ts.map V.str
  | [], ts, vs, h, r => by cases h; cases r; rfl
  | x :: xs, ts, vs, h, r => by
    cases r with
    | cons r1 r2 =>
      cases r1 with
      | str z =>
        obtain ⟨ts', h1, h⟩ := bnd (show (strsD xs).bind (fun ts => some (z :: ts)) = some ts from h)
        cases h
        rw [strsD_rd h1 r2]; rfl
      | _ => cases h
section
variable {X : Cx}
theorem mt_join : MtM X "str.join" (rJoin X.K) := by
  intro pins s σ H x vs v us Q I rx rv h
  obtain ⟨z, p, ts, rfl, rfl, sq, hz, q⟩ := h
  obtain ⟨t, rfl⟩ := rx
  obtain ⟨u, rfl, ru⟩ := rv.one
  cases ru
  obtain ⟨its, r, pl, _⟩ := I.list sq
  refine join_list pl.isList (strs_are (by simpa using r)) hz fun t' k => ?_
  exact ⟨.str _, H, I.tok _, ⟨t', by show Value.str (Builtin.Str.glued z ts) t' = _; rw [StrLaws.glued_eq_join]⟩, q⟩
theorem mt3_join {K : PySem.W.Frag} : Mt3 K mJoin (rJoin K) := by
  intro ρ S H x x' xs vs v S' Q sim rx r h p
  unfold mJoin at h
  split at h
  · obtain ⟨ys, h1, h⟩ := bnd h
    obtain ⟨ts, h2, h⟩ := bnd h
    obtain ⟨hz, e⟩ := ite_some h
    cases e
    obtain ⟨w, rfl, rw'⟩ := r.one
    obtain ⟨a, us, ha, sq, r2⟩ := sim.lstOf h1
    cases rx
    cases rw' with
    | ref hn =>
      rw [ha] at hn; cases hn
      have := strsD_rd h2 r2
      subst this
      exact ⟨_, _, ts, rfl, rfl, sq, hz, p ρ H _ (Ext.refl ..) sim (.str _)⟩
  · cases h
noncomputable def recvS : D → Option Unit
  | .str _ => some ()
  | _ => none
noncomputable def eMethS (f : D → List D → Sto → Option (D × Sto)) (o : EM) (as : AM) : EM := fun l S => (o l S).bind fun p => (recvS p.1).bind fun _ => (as l p.2).bind fun q => f p.1 q.1 q.2
variable {o e : Expr} {mo m : EM} {apos cpos : Pos}
theorem p3_join (ho : PE3 X o mo) (he : PE3 X e m)
    (hbase : attributeBase o "join" X.env (eval o X.env) = eval o X.env := by rfl)
    (hfew : ((backTo cpos (starEach [e] X.env)).all (fun x => !x.1) && (backToKw cpos (keywordEach [] X.env)).all (fun x => x.1.isSome)
      && decide ([e].length + ([] : List Keyword).length + (if ([] : List Keyword).isEmpty then 0 else 1) < 30)) = true := by rfl)
    (hline : (apos.endLine == cpos.line) = true := by rfl) (hs : starEach [e] X.env = (false, eval e X.env) :: starEach [] X.env := by rfl) :
    PE3 X (.Call (.Attribute o "join" apos) [e] [] cpos) (eMethS mJoin mo (aCons m aNil)) :=
  PE.imp (pe_bm PySem.F.plainAttrs_str PySem.F.slot_str_join PySem.F.type_str_join mt_join ho (a3_cons he a3_nil hs) hbase hfew hline hs rfl) fun σ H Q hx3_ => by
    obtain ⟨ρ, l, S, v, S', sim, ro, hq, p⟩ := hx3_
    obtain ⟨⟨x, S1⟩, h1, hq⟩ := bnd hq
    obtain ⟨_, h2, hq⟩ := bnd hq
    obtain ⟨⟨ys, S2⟩, h4, hq⟩ := bnd hq
    refine ⟨ρ, l, S, x, S1, sim, ro, h1, fun ρ1 H1 x' e1 s1 r1 => ⟨?_, ρ1, l, S1, ys, S2, s1, ro.mono e1, h4, fun ρ2 H2 vs e2 s2 r2 => mt3_join ρ2 S2 H2 x x' ys vs v S' Q s2 (r1.mono e2) r2 hq (p.ext (e1.trans e2))⟩⟩
    cases r1 with
    | str z => exact rfl
    | _ => cases h2
end
end L3
namespace L3
open PySem PySem.Spec PyProof.Rows L2
section
variable {P : Program} {w : World} {K : PySem.W.Frag} {elts : List Expr} {z : Nat} {tp : Pos}
end
section
variable {X : Cx} {elts : List Expr} {z : Nat} {tp : Pos}
end
section
variable {X : Cx} {elts : List Expr} {z : Nat} {tp : Pos} {a : Expr} {mA : AM} {g : GM} {b : SM} {body : List Stmt} {p0 pos' pos : Pos}
end
end L3
namespace L3
open PySem PySem.Spec PyProof.Rows L2
section
variable {X : Cx} {a b : Expr} {ma mb : EM} {pos : Pos} {k : Nat}
end
end L3
namespace L3
open PySem PySem.Spec PyProof.Rows L2
noncomputable def rSlS : V → Option Int → Option Int → Hp → VK → Prop := fun x lo hi H Q => ∃ z, x = .str z ∧ z.length ≤ sizeLine ∧ Q (.str (Txt.slice z lo hi)) H
theorem part_of {v : Value} {o : Option Int} (h : IsPart v o) : ∃ l : Option (Int × Tok), v = partValue l ∧ o = l.map (·.1) := by
  cases h with
  | none => exact ⟨none, rfl, rfl⟩
  | int i t => exact ⟨some (i, t), rfl, rfl⟩
theorem sl_str {X : Cx} : SlR X rSlS := by
  intro pins s σ H x v vl vu lo hi sl Q I rx hs pl pu h
  obtain ⟨z, rfl, hz, q⟩ := h
  obtain ⟨t, rfl⟩ := rx
  obtain ⟨l, rfl, rfl⟩ := part_of pl
  obtain ⟨u, rfl, rfl⟩ := part_of pu
  refine ⟨"str", _, F.slot_str_getitem.lookup, typeIs_str _ _ _, ?_⟩
  refine wpAny_getItem_str_slice (l := l) (u := u) (st := none) hs rfl ?_
  refine post_val_or_str ⟨Nat.le_trans (Txt.slice_le z _ _) hz, fun t' k => ?_⟩
  exact ⟨.str _, H, I.tok _, ⟨t', rfl⟩, q⟩
noncomputable def eSlA (m : EM) (lo hi : OM) : EM := fun l S => (m l S).bind fun p => (lo l p.2).bind fun q => (hi l q.2).bind fun r => match p.1 with
  | .tup xs => some (.tup (cutD xs q.1 r.1), r.2)
  | .ref n => (lstOf r.2 n).bind fun xs => some (.ref r.2.length, r.2 ++ [.lst (cutD xs q.1 r.1)])
  | .str z => if z.length ≤ sizeLine then some (.str (Txt.slice z q.1 r.1), r.2) else none
  | _ => none
section
variable {X : Cx} {a : Expr} {ma : EM} {lo hi : Option Expr} {ml mh : OM} {p2 pos : Pos}
theorem p3_slA (he : PE3 X a ma) (hl : PO3 X lo ml) (hu : PO3 X hi mh) : PE3 X (.Subscript a (.Slice lo hi none p2) pos) (eSlA ma ml mh) := PE.imp (pe_slice (((sl_tup.or sl_tupW).or sl_list).or sl_str) he hl hu) fun σ H Q hx1_ => by
  obtain ⟨ρ, l, S, v, S', sim, ro, hm, p⟩ := hx1_
  obtain ⟨⟨x, S1⟩, h1, hm⟩ := bnd hm
  obtain ⟨⟨y, S2⟩, h2, hm⟩ := bnd hm
  obtain ⟨⟨z, S3⟩, h3, hm⟩ := bnd hm
  refine ⟨ρ, l, S, x, S1, sim, ro, h1, fun ρ1 H1 x' e1 s1 r1 => ⟨ρ1, l, S1, y, S2, s1, ro.mono e1, h2, fun ρ2 H2 e2 s2 => ⟨ρ2, l, S2, z, S3, s2, ro.mono (e1.trans e2), h3, fun ρ3 H3 e3 s3 => ?_⟩⟩⟩
  have e13 := e1.trans (e2.trans e3)
  cases r1 with
  | @tup xs a vs ha r =>
    cases hm
    have ha3 := (e2.trans e3).tup _ _ ha
    have r3 := r.mono (e2.trans e3)
    have hlen := r.length
    by_cases hw : HT.sIx vs.length 0 y = 0 ∧ HT.sIx vs.length vs.length z = vs.length
    · refine .inl (.inl (.inr ⟨a, vs, rfl, SqT.of ha3, hw, ?_⟩))
      have := cut_whole xs y z (by rw [hlen]; exact hw)
      dsimp only at p
      rw [this] at p
      exact p ρ3 H3 _ e13 s3 (.tup ha3 r3)
    · refine .inl (.inl (.inl ⟨a, vs, rfl, SqT.of ha3, hw, ?_⟩))
      have rc : RDs ρ3 H3 (cutD xs y z) (cutV vs y z) := by
        unfold cutD cutV
        rw [hlen]
        exact (r3.drop _).take _
      exact new_tup s3 rc (Pv.ext p e13)
  | @ref j b hj =>
    obtain ⟨xs, hx, hm⟩ := bnd (show (lstOf S3 j).bind (fun xs => some (D.ref S3.length, S3 ++ [.lst (cutD xs y z)])) = some (v, S') from hm)
    cases hm
    obtain ⟨c, us, hc, sq, rv⟩ := s3.lstOf hx
    have := (e2.trans e3).pre _ _ hj
    rw [this] at hc; cases hc
    have rc : RDs ρ3 H3 (cutD xs y z) (cutV us y z) := by
      unfold cutD cutV
      rw [rv.length]
      exact (rv.drop _).take _
    exact .inl (.inr ⟨b, us, rfl, sq, new_lst s3 rc (Pv.ext p e13)⟩)
  | str t =>
    obtain ⟨hz, e⟩ := ite_some (show (if t.length ≤ sizeLine then some (D.str (Txt.slice t y z), S3) else none) = some (v, S') from hm)
    cases e
    exact .inr ⟨t, rfl, hz, p ρ3 H3 _ e13 s3 (.str _)⟩
  | _ => cases hm
end
noncomputable def dPlusS : D → D → Sto → Option (D × Sto)
  | .str i, .str j, S => if i.length + j.length ≤ sizeLine then some (.str (i ++ j), S) else none
  | _, _, _ => none
noncomputable def dPlusA : D → D → Sto → Option (D × Sto) := fun x y S => match dPlusS x y S with | some v => some v | none => dPlus x y S
theorem op3_plusS {K : PySem.W.Frag} : Op3 K dPlusS (fun x y H Q => ∃ i j, x = .str i ∧ y = .str j ∧ i.length + j.length ≤ sizeLine ∧ Q (.str (i ++ j)) H) := by
  intro ρ S H x y x' y' v S' Q sim rx ry h p
  unfold dPlusS at h
  split at h
  · obtain ⟨hz, e⟩ := ite_some h
    cases e; cases rx; cases ry
    exact ⟨_, _, rfl, rfl, hz, p ρ H _ (Ext.refl ..) sim (.str _)⟩
  · cases h
theorem p3_plusA {X : Cx} {a b : Expr} {ma mb : EM} {pos : Pos} (ha : PE3 X a ma) (hb : PE3 X b mb) : PE3 X (.BinOp a .Add b pos) (eOp dPlusA ma mb) := p3_op (op_add_str.or (op_add.or ((op_catT.or op_catT0).or op_cat))) (op3_plusS.or op3_plus) ha hb
noncomputable def fIntA : FM
  | [.str z], S => (intText? z).bind fun n => if z.length ≤ 640 then some (.int n, S) else none
  | xs, S => fInt xs S
section
variable {X : Cx} {a : Expr} {es : List Expr} {mA : AM} {pos p : Pos} {K : PySem.W.Frag}
end
section
variable {X : Cx}
variable {o e f : Expr} {mo m m' : EM} {apos cpos : Pos}
end
end L3
namespace L3
open PySem PySem.Spec PyProof.Rows L2
noncomputable def intsD : List D → Option (List Int)
  | [] => some []
  | .int i :: r => (intsD r).bind fun ns => some (i :: ns)
  | _ => none
theorem intsD_rd {ρ : List Addr} {H : Hp} : ∀ {xs : List D} {ns : List Int} {vs : List V}, intsD xs = some ns → RDs ρ H xs vs → vs = ns.map V.int
  | [], ts, vs, h, r => by cases h; cases r; rfl
  | x :: xs, ts, vs, h, r => by
    cases r with
    | cons r1 r2 =>
      cases r1 with
      | int z =>
        obtain ⟨ts', h1, h⟩ := bnd (show (intsD xs).bind (fun ts => some (z :: ts)) = some ts from h)
        cases h
        rw [intsD_rd h1 r2]; rfl
      | _ => cases h
section
variable {X : Cx}
variable {a : Expr} {es : List Expr} {mA : AM} {p pos : Pos}
end
noncomputable def IsRevT (h : Heap) (a t : Addr) (i : Int) : Prop := ∃ o, h.get? a = some o ∧ o.cls = .type "reversed" ∧ o.data = .fields #[.ref t, rawInt i]
section
variable {prog : Program} {w : World} {A : Around} {E : Value → Shared → Prop} {s : Shared}
theorem IsRevT.typeIs {a t : Addr} {i : Int} (x : IsRevT s.heap a t i) : s.TypeIs (.ref a) "reversed" := let ⟨o, ho, hc, _⟩ := x; ⟨o, ho, hc⟩
end
section
variable {P : Program} {w : World} {K : PySem.W.Frag} {tg : Expr}
end
section
variable {X : Cx} {tg : Expr}
end
section
variable {X : Cx} {tgt : Expr} {a : Expr} {mA : AM} {p0 pos' : Pos}
end
end L3
namespace L3
open PySem PySem.Spec PyProof.Rows L2
section
variable {X : Cx}
theorem boot_sorted' : bootBuiltins "sorted" = some (.builtin "sorted") := by decide +kernel
variable {a : Expr} {es : List Expr} {mA : AM} {pos p : Pos}
end
section
variable {X : Cx} {a b : Expr} {ma mb : EM} {pos : Pos}
end
end L3
namespace L3
open PySem PySem.Spec PyProof.Rows L2
section
variable {prog : Program} {w : World} {A : Around} {R : Result → Shared → Prop} {s : Shared}
end
end L3
namespace L3
open PySem PySem.Spec PyProof.Rows L2
section
variable {K : PySem.W.Frag} {ρ : List Addr} {H : Hp} {S : Sto}
end
end L3
namespace L3
open PySem PySem.Spec PyProof.Rows L2
section
variable {X : Cx} {tg : Expr}
end
section
variable {X : Cx} {tgt iter : Expr} {m : EM}
end
section
variable {X : Cx} {a b : Expr} {ma mb : EM} {pos : Pos} {k : Nat}
end
end L3
namespace L3
open PySem PySem.Spec PyProof.Rows L2
noncomputable def relS (scope scO : Scope) : Scope := { scope with names := scope.names.map fun (n, k) => if (k == .free && scO.kind == .function && scO.names.lookup n == some .cell) then (n, .cell) else (n, k) }
theorem relS_eq (scope : Scope) (env : Env) : relabel scope env = relS scope env.scope := rfl
end L3
namespace L3
open PySem PySem.Spec PyProof.Rows L2 PySem.W
structure Tr (fs : List Addr) (e T : Addr) (h h' : Heap) : Prop where
  keep : ∀ b o, b ∉ fs → b ≠ e → b ≠ T → h.get? b = some o → h'.get? b = some o
  slot : ∀ b o, b ∈ fs → h.get? b = some o → (∀ vs, o.data ≠ .fields vs) → ∃ sl, h'.get? b = some { o with slots := sl }
section
variable {M : Model} {A : Around} {E : Value → Shared → Prop} {s : Shared} {base : Heap} {env : Env} {outer : List Env} {L e C T : Addr} {Q : Unit → Shared → Prop}
end
end L3
namespace L3
open PySem PySem.Spec PyProof.Rows L2 PySem.W
theorem ObjOk.there {P : Program} {w : World} {H : Hp} {h : Heap} {a : Addr} {o : HO} (x : ObjOk P w H h a o) : ∃ q, h.get? a = some q := by
  cases o with
  | lst xs => obtain ⟨_, _, _, _, e⟩ := x; exact ⟨_, e⟩
  | tup xs => obtain ⟨_, _, _, ob, e, _⟩ := x; exact ⟨_, e⟩
  | dK kvs => obtain ⟨_, _, _, _, o, _, _, e, _⟩ := x; exact ⟨_, e⟩
  | dT kvs => obtain ⟨_, _, _, _, o, _, _, e, _⟩ := x; exact ⟨_, e⟩
  | set S n => obtain ⟨o, _, _, _, e, _⟩ := x; exact ⟨_, e⟩
  | ins C dx fs => obtain ⟨_, _, _, e, _⟩ := x; exact ⟨_, e⟩
  | own y => obtain ⟨_, e⟩ := x; exact ⟨_, e⟩
  | xd fs => obtain ⟨_, ⟨_, _, _, e, _⟩, _⟩ := x; exact ⟨_, e⟩
  | rng lo hi => obtain ⟨_, _, _, e⟩ := x; exact ⟨_, e⟩
  | frz ob u => obtain ⟨e, _⟩ := x; exact ⟨_, e⟩
  | tbl ps => exact ⟨_, x⟩
  | met f y => exact ⟨_, x⟩
  | ext φ => obtain ⟨_, e, _⟩ := x; exact e
section
variable {P : Program} {w : World} {K : PySem.W.Frag} {mg : Str → Option Value} {base : Heap} {N : List Str} {qual : Str} {scope : Scope} {f : Addr} {cd : Value} {A : Around} {outer : List Env} {s : Shared} {H : Hp} {E : XK}
end
end L3
namespace L3
open PySem PySem.Spec PyProof.Rows L2 PySem.W
noncomputable abbrev ZM := Lo → Sto → Option (Str × Sto)
noncomputable abbrev ZF := List D → Sto → Option (Str × Sto)
noncomputable def Rz (K : PySem.W.Frag) (E : XK) (CA : Str → Addr) (r : ZM) : L2.St → Hp → Prop := fun σ H => ∃ ρ l S C S', Sim K ρ S H ∧ RO ρ H l σ ∧ r l S = some (C, S') ∧ ∀ ρ' H', Ext ρ H ρ' H' → Sim K ρ' S' H' → E (.ref (CA C)) none H'
noncomputable def zNone : ZM := fun _ _ => none
section
variable {X : Cx} {E : XK} {CA : Str → Addr} {e : Expr} {es : List Expr} {st : Stmt} {rest : List Stmt} {r q : ZM} {m : EM} {b : SM} {pos : Pos}
theorem Rz.none {K : PySem.W.Frag} {σ : L2.St} {H : Hp} (h : Rz K E CA zNone σ H) : False := by
  obtain ⟨ρ, l, S, C, S', sim, ro, hm, p⟩ := h; cases hm
end
section
variable {X : Cx} {E : XK} {CA : Str → Addr} {a : Expr} {es : List Expr} {mA : AM} {pos p : Pos} {x : Str} {k j n : Nat} {rx : ZF}
end
section
variable {P : Program} {w : World} {K : PySem.W.Frag} {mg : Str → Option Value} {base : Heap} {N : List Str} {qual : Str} {scope : Scope} {f : Addr} {cd : Value} {A : Around} {outer : List Env} {s : Shared} {H : Hp} {E : XK} {CA : Str → Addr}
end
end L3
namespace L3
open PySem PySem.Spec PyProof.Rows L2 PySem.W
section
variable {M : Model} {A : Around} {E : Value → Shared → Prop} {s : Shared} {base : Heap} {env : Env} {outer l : List Env} {L e C T : Addr} {Q : Unit → Shared → Prop}
end
section
variable {X : Cx} {pins : List (Addr × Obj)} {σ : L2.St} {H : Hp} {s : Shared} {h' : Heap} {a T : Addr} {t' : Nat}
theorem Inv.tr (I : Inv X pins σ H s) (hex : X.ex = []) (tr : Tr (frs X.stack) a T s.heap h') (na : X.s₀.heap.get? a = none) (nT : X.s₀.heap.get? T = none) (ha : H a = none) (hT : H T = none)
    (oL : X.env.locals ≠ a ∧ X.env.locals ≠ T) (oC : ∀ x c, X.env.cells.lookup x = some c → c ≠ a ∧ c ≠ T) (oP : ∀ p ∈ X.pn ++ pins, p.1 ≠ a ∧ p.1 ≠ T) : Inv X pins σ H { s with heap := h', toks := t' } := by
  have kp : ∀ b o, (∀ vs, o.data ≠ .fields vs) → b ≠ a → b ≠ T → s.heap.get? b = some o → ∃ sl, h'.get? b = some { o with slots := sl } := fun b o hn h1 h2 q => by
    by_cases hb : b ∈ frs X.stack
    · exact tr.slot b o hb q hn
    · exact ⟨o.slots, tr.keep b o hb h1 h2 q⟩
  have hne : ∀ b o, X.s₀.heap.get? b = some o → b ≠ a ∧ b ≠ T ∧ b ≠ X.env.locals := fun b o q => ⟨fun z => (by rw [z, na] at q; cases q), fun z => (by rw [z, nT] at q; cases q), Nat.ne_of_lt (Nat.lt_of_lt_of_le (Heap.lt_size q) I.ok.above)⟩
  have nex : ∀ b, b ∉ X.ex := fun b => by rw [hex]; simp
  refine ⟨I.ok, I.os, I.bare, ⟨fun b o q n hb hx => ?_, fun b o q n hb hx => ?_, I.base.free, fun b o q hx => ?_, I.base.tups, I.base.frzs, I.base.tbls⟩, ?_, fun x c e => ?_, I.free, I.freeC, fun p hp => ?_, fun b u e => ?_, I.len⟩
  · obtain ⟨h1, h2, h3⟩ := hne b o q
    exact tr.keep b o (fun z => (List.mem_cons.mp (I.stkSub b z)).elim h3 hb) h1 h2 (I.base.keep b o q n hb hx)
  · obtain ⟨h1, h2, h3⟩ := hne b o q
    obtain ⟨sl, e⟩ := I.base.slot b o q n hb hx
    obtain ⟨_, o2, ho2, hnf⟩ := I.funs.mem hb
    rw [e] at ho2; cases ho2
    obtain ⟨sl', e'⟩ := kp b _ hnf h1 h2 e
    exact ⟨sl', e'⟩
  · obtain ⟨h1, h2, h3⟩ := hne b o q
    obtain ⟨o', e⟩ := I.base.there b o q hx
    by_cases hb : b ∈ frs X.stack
    · obtain ⟨_, o2, ho2, hnf⟩ := I.stack.mem hb
      rw [e] at ho2; cases ho2
      obtain ⟨sl, e'⟩ := tr.slot b _ hb e hnf
      exact ⟨_, e'⟩
    · exact ⟨o', tr.keep b o' hb h1 h2 e⟩
  · obtain ⟨m, ⟨o, es, ep, ho, hd, hr⟩, hl⟩ := I.loc
    obtain ⟨sl, e'⟩ := kp _ o (fun vs z => by rw [hd] at z; cases z) oL.1 oL.2 ho
    refine ⟨m, ⟨_, es, ep, e', hd, hr⟩, fun i x v h1 h2 h3 => ?_⟩
    obtain ⟨u, r, lk⟩ := hl i x v h1 h2 h3
    refine ⟨u, r, ?_⟩
    rcases lk with lk | ⟨k, c, hc, oc, hoc, hdc⟩
    · exact .inl lk
    · obtain ⟨sl2, e2⟩ := kp c oc (fun vs z => by rw [hdc] at z; cases z) (oC x c hc).1 (oC x c hc).2 hoc
      exact .inr ⟨k, c, hc, _, e2, hdc⟩
  · obtain ⟨v, o, ho, hd⟩ := I.cell x c e
    obtain ⟨sl2, e2⟩ := kp c o (fun vs z => by rw [hd] at z; cases z) (oC x c e).1 (oC x c e).2 ho
    exact ⟨v, _, e2, hd⟩
  · obtain ⟨e, n, ne, nf, d⟩ := I.pin p hp
    exact ⟨tr.keep _ _ (fun z => (List.mem_cons.mp (I.stkSub _ z)).elim ne nf) (oP p hp).1 (oP p hp).2 e, n, ne, nf, d⟩
  · refine (I.hok b u e).stay (fun c v hc q => ?_) (fun _ q => q) fun _ _ q => q
    have hcn : H c ≠ none := by
      rcases hc with z | z
      · rw [z, e]; intro y; cases y
      · rw [z]; intro y; cases y
    exact tr.keep c v (fun z => hcn (I.stkFree c z)) (fun z => hcn (by rw [z]; exact ha)) (fun z => hcn (by rw [z]; exact hT)) q
end
section
variable {M : Model} {A : Around} {E : Value → Shared → Prop} {h : Heap} {g : Array GenState} {d : Drawn} {t : Nat} {os : OsState}
variable {nm q nm' q' : Str} {C N D N' : Addr} {bs bm bs' bm' : List Value} {hdct hdct' : Bool} {sn sn' : List Str} {sub sub' : List Value} {ab ab' : Bool} {col col' : Option Bool} {dd dd' : Option Addr} {k0 k1 k2 k3 k5 k0' k1' k2' k3' k5' : Option Value} {newId newId' : String}
end
end L3
namespace L3
open PySem PySem.Spec PyProof.Rows L2 PySem.W
section
variable {X : Cx} {pins : List (Addr × Obj)} {σ : L2.St} {H : Hp} {s : Shared} {a C T : Addr} {e : Value}
end
end L3
namespace L3
open PySem PySem.Spec PyProof.Rows L2 PySem.W
section
variable {X : Cx} {pins : List (Addr × Obj)} {σ : L2.St} {tS : TS} {i : Nat} {Dh : Addr} {n hx : Str} {np hpos : Pos} {b0 : Stmt} {suite : List Stmt}
end
end L3
namespace L3
open PySem PySem.Spec PyProof.Rows L2 PySem.W
section
variable {X : Cx} {E : XK} {CA : Str → Addr} {a : Expr} {es : List Expr} {mA : AM} {cpos p apos py tpos : Pos} {x y : Str} {k j n : Nat} {rx : ZF}
variable {tN tS : TS} {i : Nat} {Dh : Addr} {nm hx : Str} {np hpos : Pos} {b0 : Stmt} {suite : List Stmt}
end
section
variable {X : Cx} {E : XK} {CA : Str → Addr} {a : Expr} {es : List Expr} {mA : AM} {cpos p apos py tpos : Pos} {x y : Str} {k j n : Nat} {rx : ZF} {i : Nat} {Dh : Addr} {nm hx : Str} {np hpos : Pos} {b0 : Stmt} {suite : List Stmt} {mN mS : SM} {ok : Str → Bool}
end
end L3
namespace L3
open PySem PySem.Spec PyProof.Rows L2 PySem.W PySem.Builtin PySem.Builtin.ObjectAttr PySem.Builtin.Getset_descriptor
section
variable {prog : Program} {w : World} {A : Around} {E : Value → Shared → Prop} {h : Heap} {g : Array GenState} {d : Drawn} {t : Nat} {os : OsState} {a : Addr} {o : Obj} {K : PySem.W.Frag} {C : Addr}
end
section
variable {prog : Program} {w : World} {A : Around} {E : Value → Shared → Prop} {h : Heap} {g : Array GenState} {d : Drawn} {t : Nat} {os : OsState} {a : Addr} {o : Obj} {K : PySem.W.Frag} {C : Addr}
end
end L3
namespace L3
open PySem PySem.Spec PyProof.Rows L2 PySem.W
section
variable {X : Cx} {es : List Expr} {Cs : List Addr} {y : Str} {C : Addr} {p : Pos}
end
section
variable {X : Cx} {a : Expr} {ma : EM} {pos p tp p2 : Pos} {es : List Expr} {Cs : List Addr} {x1 : Nat} {tab : List (Str × Bool)} {y : Str} {D0 : Addr}
end
end L3
namespace L3
open PySem PySem.Spec PyProof.Rows L2
noncomputable def TyOk (X : Cx) (T : String) (ty : V → Hp → Prop) : Prop := ∀ (pins : List (Addr × Obj)) (s : Shared) (σ : St) (H : Hp) (x : V) (v : Value), Inv X pins σ H s → RelV x v → ty x H →
  s.TypeIs v T ∧ ∀ a, v = .ref a → ∃ ob, s.heap.get? a = some ob ∧ ob.dict = none
section
variable {X : Cx} {o e : Expr} {es : List Expr} {to : TE} {t : TA} {name : Str} {apos cpos : Pos} {T id : String} {r : V → List V → Hp → VK → Prop} {ty : V → Hp → Prop}
theorem pe_bmT (tok : TyOk X T ty) (pa : PlainAttrs T) (slot : Slot T name id) (hty : typeOf (.builtin id) = pure (.type "method_descriptor")) (hm : MtM X id r) (ho : PE X o to) (ha : PA X (e :: es) t)
    (hbase : attributeBase o name X.env (eval o X.env) = eval o X.env := by rfl)
    (hfew : ((backTo cpos (starEach (e :: es) X.env)).all (fun x => !x.1) && (backToKw cpos (keywordEach [] X.env)).all (fun x => x.1.isSome)
      && decide ((e :: es).length + ([] : List Keyword).length + (if ([] : List Keyword).isEmpty then 0 else 1) < 30)) = true := by rfl)
    (hline : (apos.endLine == cpos.line) = true := by rfl) (hs : starEach (e :: es) X.env = (false, eval e X.env) :: starEach es X.env := by rfl) (hplain : (backTo cpos (starEach es X.env)).any (·.1) = false := by rfl) :
    PE X (.Call (.Attribute o name apos) (e :: es) [] cpos) (fun σ H Q => to σ H fun x H1 => ty x H1 ∧ t σ H1 fun xs H2 => r x xs H2 Q) := by
  intro pins s σ H Q I h
  refine wpAny_Call_method_late hbase hfew hline rfl (thn (ho pins s σ H _ I h) fun v s1 ⟨x, H1, I1, r1, ty1, q1⟩ => ?_)
  obtain ⟨h1, h2⟩ := tok pins s1 σ H1 x v I1 r1 ty1
  refine ⟨T, id, pa, slot, hty, h1, h2, ?_⟩
  have hA := ha cpos pins s1 σ H1 _ I1 q1
  rw [hs] at hA ⊢
  refine Calls.callWith_builtin (by show (false || (backTo cpos (starEach es X.env)).any (·.1)) = false; rw [hplain] <;> rfl) (Calls.evalArgs_plain ?_)
  exact thn hA fun us s2 ⟨vs, H2, I2, r2, q2⟩ => hm pins s2 σ H2 x vs v us Q I2 r1 r2 q2
end
theorem intsD_map (is : List Int) : intsD (is.map D.int) = some is := by
  induction is with
  | nil => rfl
  | cons i r ih => show (intsD (r.map D.int)).bind _ = _; rw [ih]; rfl
section
variable {X : Cx} {j : Nat}
end
section
variable {X : Cx} {j : Nat} {o e : Expr} {mo m : EM} {apos cpos : Pos}
variable {a b : Expr} {ma mb : EM} {pos : Pos}
end
end L3
namespace L3
open PySem PySem.Spec PyProof.Rows L2
section
variable {K : PySem.W.Frag} {ρ : List Addr} {H : Hp} {S : Sto}
end
noncomputable def Ro1 (ρ : List Addr) (H : Hp) (o : Option D) (o' : Option V) : Prop := (o = none → o' = none) ∧ ∀ d, o = some d → ∃ v, o' = some v ∧ RD ρ H d v
theorem Ro1.isSome {ρ : List Addr} {H : Hp} {o : Option D} {o' : Option V} (r : Ro1 ρ H o o') : o'.isSome = o.isSome := by
  cases o with
  | none => rw [r.1 rfl]; rfl
  | some d => obtain ⟨v, e, _⟩ := r.2 d rfl; rw [e]; rfl
theorem Ro1.getD {ρ : List Addr} {H : Hp} {o : Option D} {o' : Option V} (r : Ro1 ρ H o o') {z : D} {z' : V} (rz : RD ρ H z z') : RD ρ H (o.getD z) (o'.getD z') := by
  cases o with
  | none => rw [r.1 rfl]; exact rz
  | some d => obtain ⟨v, e, q⟩ := r.2 d rfl; rw [e]; exact q
section
variable {X : Cx} {a b e f o i value : Expr} {ma mb me mf mo mi mv : EM} {pos pos' apos cpos : Pos} {k : Nat}
end
section
variable {X : Cx} {pos : Pos}
end
section
variable {X : Cx} {o i value : Expr} {mo mi mv : EM} {pos pos' : Pos} {k : Nat}
end
end L3
namespace L3
open PySem PySem.Spec PyProof.Rows L2
noncomputable def Fnc (K : PySem.W.Frag) (mg : Str → Option Value) (x : Str) : Prop := ∃ f o, PySem.W.nsIn K mainGlobals x = some (some (.ref f)) ∧ K.lookup f = some o ∧ mg x = some (.ref f)
section
variable {K : PySem.W.Frag} {ρ : List Addr} {H : Hp} {S : Sto}
theorem Sim.fnc {a : Addr} {x : Str} (s : Sim K ρ S H) (h1 : PySem.W.nsIn K mainGlobals x = some (some (.ref a))) (h2 : ∃ o, K.lookup a = some o) : Sim K (ρ ++ [a]) (S ++ [.fnc x]) H := by
  refine ⟨by simp [s.len], fun i j b x1 x2 g1 g2 g3 g4 m1 m2 => ?_, fun n b o g1 g2 => ?_⟩
  · rcases get_push g3 with g3 | ⟨e3, f3⟩
    · rcases get_push g4 with g4 | ⟨e4, f4⟩
      · have l1 := (List.getElem?_eq_some_iff.mp g3).1
        have l2 := (List.getElem?_eq_some_iff.mp g4).1
        have l := s.len
        rcases get_push g1 with g1 | ⟨q1, _⟩
        · rcases get_push g2 with g2 | ⟨q2, _⟩
          · exact s.nd i j b _ _ g1 g2 g3 g4 m1 m2
          · omega
        · omega
      · subst f4; cases m2
    · subst f3; cases m1
  · rcases get_push g1 with g1 | ⟨e1, f1⟩
    · rcases get_push g2 with g2 | ⟨e2, f2⟩
      · exact (s.at' n b o g1 g2).more ext0_push
      · have := (List.getElem?_eq_some_iff.mp g1).1; have := s.len; omega
    · subst f1
      rcases get_push g2 with g2 | ⟨e2, f2⟩
      · have := (List.getElem?_eq_some_iff.mp g2).1; have := s.len; omega
      · subst f2
        exact ⟨h1, h2⟩
end
section
variable {X : Cx} {x y : Str} {pos p : Pos} {a : Expr} {es : List Expr}
end
end L3
namespace L3
open PySem PySem.Spec PyProof.Rows L2
section
variable {k : Nat} {names : List (Str × NameKind)} {acc : List (Str × Addr)}
theorem cf_mem : ∀ {names : List (Str × NameKind)} {k : Nat} {acc : List (Str × Addr)} {x : Str} {c : Addr}, (x, c) ∈ cellsFrom k names acc → (x, c) ∈ acc ∨ (k ≤ c ∧ (x, NameKind.cell) ∈ names)
  | [], _, _, _, _, h => .inl h
  | (n, kd) :: r, k, acc, x, c, h => by
    unfold cellsFrom at h
    split at h
    · rename_i hk
      have hk : kd = .cell := by simpa using hk
      subst hk
      rcases cf_mem h with h | ⟨h1, h2⟩
      · rcases List.mem_cons.mp h with e | h
        · cases e; exact .inr ⟨Nat.le_refl _, List.mem_cons_self⟩
        · exact .inl h
      · exact .inr ⟨by omega, List.mem_cons_of_mem _ h2⟩
    · rcases cf_mem h with h | ⟨h1, h2⟩
      · exact .inl h
      · exact .inr ⟨h1, List.mem_cons_of_mem _ h2⟩
theorem cf_inj : ∀ {names : List (Str × NameKind)} {k : Nat} {acc : List (Str × Addr)}, (∀ x y c, (x, c) ∈ acc → (y, c) ∈ acc → x = y) → (∀ x c, (x, c) ∈ acc → c < k) → ∀ x y c, (x, c) ∈ cellsFrom k names acc → (y, c) ∈ cellsFrom k names acc → x = y
  | [], _, _, hi, _, x, y, c, h1, h2 => hi x y c h1 h2
  | (n, kd) :: r, k, acc, hi, hl, x, y, c, h1, h2 => by
    unfold cellsFrom at h1 h2
    split at h1
    · rename_i hk
      rw [if_pos hk] at h2
      refine cf_inj (fun x y c g1 g2 => ?_) (fun x c g => ?_) x y c h1 h2
      · rcases List.mem_cons.mp g1 with e1 | g1 <;> rcases List.mem_cons.mp g2 with e2 | g2
        · cases e1; cases e2; rfl
        · cases e1; exact absurd (hl _ _ g2) (Nat.lt_irrefl _)
        · cases e2; exact absurd (hl _ _ g1) (Nat.lt_irrefl _)
        · exact hi x y c g1 g2
      · rcases List.mem_cons.mp g with e | g
        · cases e; exact Nat.lt_succ_self _
        · exact Nat.lt_succ_of_lt (hl _ _ g)
    · rename_i hk
      rw [if_neg hk] at h2
      exact cf_inj hi hl x y c h1 h2
theorem cf_has : ∀ {names : List (Str × NameKind)} {k : Nat} {acc : List (Str × Addr)} {x : Str}, ((x, NameKind.cell) ∈ names ∨ ∃ c, acc.lookup x = some c) → ∃ c, (cellsFrom k names acc).lookup x = some c
  | [], _, _, x, h => by
    rcases h with h | h
    · cases h
    · exact h
  | (n, kd) :: r, k, acc, x, h => by
    unfold cellsFrom
    split
    · rename_i hk
      have hk : kd = .cell := by simpa using hk
      subst hk
      refine cf_has ?_
      by_cases hx : x = n
      · exact .inr ⟨k, by rw [hx, List.lookup_cons]; simp⟩
      · rcases h with h | ⟨c, h⟩
        · rcases List.mem_cons.mp h with e | h
          · cases e; exact absurd rfl hx
          · exact .inl h
        · refine .inr ⟨c, ?_⟩
          rw [List.lookup_cons]
          have : (x == n) = false := by simpa using hx
          rw [this]; exact h
    · rename_i hk
      refine cf_has ?_
      rcases h with h | h
      · rcases List.mem_cons.mp h with e | h
        · cases e; simp at hk
        · exact .inl h
      · exact .inr h
theorem cf_no : ∀ {names : List (Str × NameKind)} {k : Nat} {acc : List (Str × Addr)} {x : Str}, (x, NameKind.cell) ∉ names → (cellsFrom k names acc).lookup x = acc.lookup x
  | [], _, _, _, _ => rfl
  | (n, kd) :: r, k, acc, x, h => by
    unfold cellsFrom
    split
    · rename_i hk
      have hk : kd = .cell := by simpa using hk
      subst hk
      rw [cf_no fun z => h (List.mem_cons_of_mem _ z), List.lookup_cons]
      have : (x == n) = false := by
        have : x ≠ n := fun e => h (by rw [e]; exact List.mem_cons_self)
        simpa using this
      rw [this]
    · exact cf_no fun z => h (List.mem_cons_of_mem _ z)
theorem cf_ge : ∀ {names : List (Str × NameKind)} {k k0 : Nat} {acc : List (Str × Addr)} {x : Str} {c : Addr}, k0 ≤ k → ((x, NameKind.cell) ∈ names ∨ ∃ c', acc.lookup x = some c' ∧ k0 ≤ c') → (cellsFrom k names acc).lookup x = some c → k0 ≤ c
  | [], k, k0, acc, x, c, _, h, e => by
    have e : acc.lookup x = some c := e
    rcases h with h | ⟨c', h, q⟩
    · cases h
    · rw [h] at e; cases e; exact q
  | (n, kd) :: r, k, k0, acc, x, c, hk0, h, e => by
    unfold cellsFrom at e
    split at e
    · rename_i hk
      have hk : kd = .cell := by simpa using hk
      subst hk
      refine cf_ge (by omega) ?_ e
      by_cases hx : x = n
      · exact .inr ⟨k, by rw [hx, List.lookup_cons]; simp, hk0⟩
      · rcases h with h | ⟨c', h, q⟩
        · rcases List.mem_cons.mp h with e | h
          · cases e; exact absurd rfl hx
          · exact .inl h
        · refine .inr ⟨c', ?_, q⟩
          rw [List.lookup_cons]
          have : (x == n) = false := by simpa using hx
          rw [this]; exact h
    · rename_i hk
      refine cf_ge hk0 ?_ e
      rcases h with h | h
      · rcases List.mem_cons.mp h with e | h
        · cases e; simp at hk
        · exact .inl h
      · exact .inr h
theorem clOf_mem (env : Env) : ∀ (names : List (Str × NameKind)) (cs : List (Str × Addr)), (∀ x c, (x, c) ∈ cs → env.cells.lookup x = some c) → ∀ x c, (x, c) ∈ clOf env names cs → env.cells.lookup x = some c
  | [], cs, h, x, c, q => h x c q
  | (n, k) :: r, cs, h, x, c, q => by
    unfold clOf at q
    split at q
    · split at q
      · rename_i c' e
        refine clOf_mem env r _ (fun y d hy => ?_) x c q
        rcases List.mem_cons.mp hy with z | hy
        · cases z; exact e
        · exact h y d hy
      · exact clOf_mem env r cs h x c q
    · exact clOf_mem env r cs h x c q
theorem pc_cell : ∀ {names : List (Str × NameKind)} {h : Heap} {acc : List (Str × Addr)} {x : Str} {c : Addr}, (x, c) ∈ cellsFrom h.objs.size names acc → (x, c) ∈ acc ∨ (pushCells h names).IsCell c none
  | [], _, _, _, _, q => .inl q
  | (n, kd) :: r, h, acc, x, c, q => by
    unfold cellsFrom at q
    unfold pushCells
    split at q
    · rename_i hk
      rw [if_pos hk]
      have := pc_cell (names := r) (h := h.push { cls := .type "cell", data := .cell none }) (acc := (n, h.objs.size) :: acc) (x := x) (c := c) (by rw [Heap.size_push]; exact q)
      rcases this with z | z
      · rcases List.mem_cons.mp z with e | z
        · cases e
          exact .inr ⟨_, pushCells_keeps r _ _ _ (Heap.get?_push_size _ rfl), rfl⟩
        · exact .inl z
      · exact .inr z
    · rename_i hk
      rw [if_neg hk]
      exact pc_cell q
end
theorem newEnvC {M : Model} {A : Around} {E : Value → Shared → Prop} {s : Shared} {scope : Scope} {globals : Addr} {cl : List (Str × Addr)} {qual : Str} {outer : Env} {Q : Env → Shared → Prop}
    (hQ : ∀ h', h'.Ns s.heap.objs.size (fun _ => none) → (∀ b o, s.heap.get? b = some o → h'.get? b = some o) → (∀ x c, (x, c) ∈ cellsFrom (s.heap.objs.size + 1) scope.names cl → (x, c) ∈ cl ∨ h'.IsCell c none) →
      Q (newEnv scope s.heap.objs.size globals (cellsFrom (s.heap.objs.size + 1) scope.names cl) qual none .none (some outer) builtinsNs) { s with heap := h' }) :
    wpAny M A (newFunctionEnv scope globals cl [] qual none .none (some outer)) Q E s := by
  unfold newFunctionEnv
  refine wpAny_bind (wpAny_alloc ?_)
  refine wpAny_bind (wpAny_layCells _ (fun name kind cells => by cases hkc : kind == NameKind.cell <;> simp [hkc]) _ _ _ _ ?_)
  dsimp only
  rw [List.forIn_nil]
  refine wpAny_bind (wpAny_pure (wpAny_pure ?_))
  have hz : (s.heap.push { cls := .type "dict", data := .dict #[] }).objs.size = s.heap.objs.size + 1 := Heap.size_push ..
  have h1 := hQ (pushCells (s.heap.push { cls := .type "dict", data := .dict #[] }) scope.names) ((Heap.Ns.new s.heap (.type "dict")).keeps (pushCells_keeps _ _)) (fun b o e => pushCells_keeps _ _ b o (Heap.get?_push_of_some _ e)) (fun x c q => pc_cell (by rw [hz]; exact q))
  simp only [Option.isSome_some, if_true, hz]
  exact h1
noncomputable def cxD (X : Cx) (N' : List Str) (scope : Scope) (C : Addr) (s : Shared) (H : Hp) (fp : List Addr) (pins : List (Addr × Obj)) : Cx where
  prog := X.prog
  w := X.w
  K := X.K
  mg := X.mg
  base := X.base
  A := X.A
  N := N'
  s₀ := s
  H₀ := H
  env := compEnvC scope (cellsFrom (C + 1) scope.names (clOf X.env scope.names [])) C X.env
  outer := X.stack
  stack := X.stack
  ex := fp
  fn := fun x => scope.names.contains (x, NameKind.cell)
  calm := X.calm
  pn := X.pn ++ pins
  xe := fun _ _ => False
structure CompSd (X : Cx) (N' : List Str) (scope : Scope) (src : St → St) : Prop where
  kind : scope.kind = .function
  names : ∀ y ∈ scope.names, y.2 = .local → scope.names.lookup y.1 = some .local
  free : ∀ y ∈ scope.names, y.2 = .free → X.env.kindOf y.1 = some .cell ∨ X.env.kindOf y.1 = some .free
  rel : ∀ y, (relabel scope X.env).names.lookup y = some .cell ∨ (relabel scope X.env).names.lookup y = some .free → (y, NameKind.free) ∈ scope.names ∨ (y, NameKind.cell) ∈ scope.names
  one : ∀ y, scope.names.lookup y = some .free → (y, NameKind.cell) ∉ scope.names
  len : ∀ σ, (src σ).length = N'.length
  src : ∀ σ (i : Nat) v x, (src σ)[i]? = some (some v) → N'[i]? = some x → ∃ j : Nat, X.N[j]? = some x ∧ σ[j]? = some (some v) ∧ scope.names.lookup x = some .free
theorem comp_coreC {X : Cx} {N' : List Str} {elt iter tgt : Expr} {ifs : List Expr} {scope : Scope} {pos pos' : Pos} {use : Option (Value → Sem Unit)} {R : Value → Shared → Prop} {pins : List (Addr × Obj)} {s : Shared} {σ : St} {H : Hp} {Q : VK} {wi : TI} {src : St → St} {g : TG} {tts : TT} {t : TE} (hcalm : X.calm = true) (sc : CompSd X N' scope src)
    (hi : PI X tgt iter wi) (hg : ∀ C s H fp pins, PG (cxD X N' scope C s H fp pins) tgt g) (ht : ∀ C s H fp pins, PTs (cxD X N' scope C s H fp pins) ifs tts) (he : ∀ C s H fp pins, PE (cxD X N' scope C s H fp pins) elt t)
    (hs : ∀ x, foldedSetIterable iter X.env x = pure x) (I : Inv X pins σ H s) (h : tComp X.K wi src g tts t σ H Q)
    (fin : ∀ D H5 s6 C mC, Inv X pins σ H5 s6 → FpOk X pins H5 C → s6.heap.Ns C mC → Q (.ref D) H5 → compPost (model X.prog X.w) X.A X.xe use R (.ref D) C (.ok .next) s6) :
    wpAny (model X.prog X.w) X.A (comprehension (.ListComp elt [⟨tgt, iter, ifs, 0⟩] scope pos) scope X.env pos' (newList []) false (eval iter X.env) use) R X.xe s := by
  have hasC : ∀ x ∈ scope.names, x.2 = .free → ∃ c, X.env.cells.lookup x.1 = some c := fun x hx hf => I.ok.has x.1 (sc.free x hx hf)
  refine wpAny_comprehension_free (use := use) (env := X.env) rfl hs (closureFor_eq scope X.env hasC) sc.kind sc.names ?_
  show wpAny (model X.prog X.w) X.A (eval iter X.env) _ _ s
  refine wpAny_mono (hi pins s σ H _ I h) (fun v s1 h1 => wpAny_mono h1 (fun itv s2 h2 => ?_) fun _ _ z => z) fun _ _ z => z
  obtain ⟨it, fp, tn, J, H2, rfl, I2, T, st2, f2, q⟩ := h2
  refine wpAny_newObj_type ?_ (by show 0 ≤ sizeLine; exact Nat.zero_le _)
  have hD : H2 s2.heap.objs.size = none := I2.hok.fresh (Nat.le_refl _)
  have I3 : Inv X pins σ (upd H2 s2.heap.objs.size (.lst [])) { s2 with heap := s2.heap.push { cls := .type "list", data := .seq ([] : List Value).toArray } } := I2.lnew (t' := s2.toks) .nil (Nat.zero_le _)
  obtain ⟨W, ⟨m0, w0⟩, turn⟩ := q s2.heap.objs.size hD (by
    cases e : X.K.lookup s2.heap.objs.size with
    | none => rfl
    | some o => exact absurd (Heap.lt_size (I2.kIn _ o e)) (Nat.lt_irrefl _))
  refine newEnvC fun h' hns old0 hown0 => ?_
  have fpIn : ∀ b ∈ fp, ∃ o, s2.heap.get? b = some o ∧ ∀ v, o.data ≠ .cell v := T.obj 0 s2.heap st2
  have fpD : ∀ b ∈ fp, b ≠ s2.heap.objs.size := fun b hb => let ⟨o, e, _⟩ := fpIn b hb; Nat.ne_of_lt (Heap.lt_size e)
  have f3 : ∀ b ∈ fp, FpOk X pins (upd H2 s2.heap.objs.size (.lst [])) b := fun b hb => ⟨by rw [upd_ne (fpD b hb)]; exact (f2 b hb).1, (f2 b hb).2⟩
  have st3 : tn 0 (s2.heap.push { cls := .type "list", data := .seq ([] : List Value).toArray }) := T.keep _ _ _ st2 fun b hb o e => Heap.get?_push_of_some _ e
  clear q hD h st2 f2 fpD
  generalize upd H2 s2.heap.objs.size (.lst []) = H3 at *
  generalize hDe : s2.heap.objs.size = D at *
  have fpIn3 : ∀ b ∈ fp, ∃ o, (s2.heap.push { cls := .type "list", data := .seq ([] : List Value).toArray }).get? b = some o ∧ ∀ v, o.data ≠ .cell v := T.obj 0 _ st3
  clear fpIn
  generalize s2.heap.push { cls := .type "list", data := .seq ([] : List Value).toArray } = h3 at *
  have old : ∀ b o, h3.get? b = some o → h'.get? b = some o := old0
  have stkNo : ∀ b, b ≠ X.env.locals → b ∉ X.fs → b ∉ frs X.stack := fun b h1 h2 hb => by
    rcases List.mem_cons.mp (I3.stkSub b hb) with z | z
    · exact h1 z
    · exact h2 z
  have sub := clOf_sub X.env scope.names [] (fun x c z => by simp at z)
  have clLt : ∀ x c, (x, c) ∈ clOf X.env scope.names [] → c < h3.objs.size := fun x c z => by
    obtain ⟨v, o, ho, _⟩ := I3.cell x c (clOf_mem X.env scope.names [] (fun x c z => by simp at z) x c z)
    exact Heap.lt_size ho
  have clInj : ∀ x y c, (x, c) ∈ clOf X.env scope.names [] → (y, c) ∈ clOf X.env scope.names [] → x = y := fun x y c z1 z2 => by
    have e1 := clOf_mem X.env scope.names [] (fun x c z => by simp at z) x c z1
    have e2 := clOf_mem X.env scope.names [] (fun x c z => by simp at z) y c z2
    exact I3.ok.inj x y c e1 e2
  have own : ∀ x c, (cellsFrom (h3.objs.size + 1) scope.names (clOf X.env scope.names [])).lookup x = some c → X.env.cells.lookup x = some c ∨ (h3.objs.size + 1 ≤ c ∧ h'.IsCell c none) := fun x c z => by
    have zm := PySem.mem_of_lookup z
    rcases cf_mem zm with y | ⟨y, _⟩
    · exact .inl (clOf_mem X.env scope.names [] (fun x c z => by simp at z) x c y)
    · rcases hown0 x c zm with q | q
      · exact absurd (clLt x c q) (Nat.not_lt.mpr (Nat.le_of_succ_le y))
      · exact .inr ⟨y, q⟩
  have cNe : ∀ b o, h3.get? b = some o → b ≠ h3.objs.size := fun b o e => Nat.ne_of_lt (Heap.lt_size e)
  have exf : ∀ b ∈ fp, ∀ x c, (cellsFrom (h3.objs.size + 1) scope.names (clOf X.env scope.names [])).lookup x = some c → c ≠ b := fun b hb x c z => by
    rcases own x c z with y | ⟨y, _⟩
    · exact (f3 b hb).2.2.2.2.1 x c y
    · obtain ⟨o, e, _⟩ := fpIn3 b hb
      exact fun z => absurd (Nat.lt_of_lt_of_le (Heap.lt_size e) (Nat.le_of_succ_le y)) (by rw [z]; exact Nat.lt_irrefl _)
  have frC : ∀ x c, (cellsFrom (h3.objs.size + 1) scope.names (clOf X.env scope.names [])).lookup x = some c → H3 c = none := fun x c z => by
    rcases own x c z with y | ⟨y, _⟩
    · exact I3.freeC x c y
    · exact I3.hok.fresh (Nat.le_of_succ_le y)
  have I4 : Inv (cxD X N' scope h3.objs.size { s2 with heap := h3 } H3 fp pins) [] (src σ) H3 { s2 with heap := h', toks := s2.toks } := by
    refine ⟨⟨I3.ok.mod, sc.kind, I3.ok.glob, I3.ok.blt, Nat.le_refl _, fun x y c h1 h2 => cf_inj clInj (fun x c z => Nat.lt_succ_of_lt (clLt x c z)) x y c (PySem.mem_of_lookup h1) (PySem.mem_of_lookup h2), fun x hx => ?_, fun x c z q => Nat.le_of_succ_le (cf_ge (k0 := h3.objs.size + 1) (Nat.le_refl _) (.inl (by have z : scope.names.contains (x, NameKind.cell) = true := z; simpa using z)) q), I3.ok.hd, I3.ok.frames, .inl rfl, fun b hb => ⟨?_, fun x c z => exf b hb x c z⟩, fun b o e => I3.bs b o e, Nat.le_trans I3.ok.bsz I3.sz, fun b o e hb => ?_, fun b hb => stkNo b (f3 b hb).2.1 (f3 b hb).2.2.1, I3.stack, I3.stkFree⟩,
      rfl, I3.bare, Un.kept old, ⟨_, hns, fun i x v h1 h2 h3' => ?_⟩, fun x c z => ?_, I3.hok.fresh (Nat.le_refl _), fun x c z => frC x c z, fun p hp => ?_, I3.hok.kept old, sc.len σ⟩
    · rcases sc.rel x hx with hm | hm
      · exact cf_has (.inr (clOf_has X.env scope.names [] x (.inl hm) (hasC _ hm rfl)))
      · exact cf_has (.inl hm)
    · obtain ⟨o, e, _⟩ := fpIn3 b hb
      exact cNe b o e
    · rcases (f3 b hb).2.2.2.1 with z | z
      · exact I3.ok.noex b o e z
      · have := Heap.lt_size (I3.ok.bs b o e).1
        exact absurd (Nat.lt_of_lt_of_le this z) (Nat.lt_irrefl _)
    · obtain ⟨j, e1, e2, e3⟩ := sc.src σ i v x h2 h1
      obtain ⟨m, hn, hl⟩ := I3.loc
      have hmem := PySem.mem_of_lookup e3
      have hk := sc.free (x, .free) hmem rfl
      have vis : Vis X.env.scope x := by
        rcases hk with k | k
        · exact .inr (.inl k)
        · exact .inr (.inr k)
      obtain ⟨u, r, lk⟩ := hl j x v e1 e2 vis
      refine ⟨u, r, .inr ⟨?_, ?_⟩⟩
      · exact relabel_lookup (scope := scope) e3
      · rcases lk with ⟨k, _⟩ | ⟨_, c, hc, hcell⟩
        · rcases hk with k' | k' <;> (rw [k] at k'; cases k')
        · obtain ⟨c', hc'⟩ := clOf_has X.env scope.names [] x (.inl hmem) ⟨c, hc⟩
          have := sub x c' hc'
          rw [hc] at this; cases this
          have hc' : (cellsFrom (h3.objs.size + 1) scope.names (clOf X.env scope.names [])).lookup x = some c := by rw [cf_no (sc.one x e3)]; exact hc'
          obtain ⟨o, ho, hd⟩ := hcell
          exact ⟨c, hc', o, old _ _ ho, hd⟩
    · rcases own x c z with y | ⟨_, y⟩
      · obtain ⟨v, o, ho, hd⟩ := I3.cell x c y
        exact ⟨v, o, old _ _ ho, hd⟩
      · exact ⟨none, y⟩
    · have hp' : p ∈ X.pn ++ pins := by simpa [cxD] using hp
      obtain ⟨e, n, ne, nf, d⟩ := I3.pin p hp'
      exact ⟨old _ _ e, n, cNe _ _ e, stkNo _ ne nf, d⟩
  have st4 : tn 0 h' := T.keep _ _ _ st3 fun b hb o e => old b o e
  have fr4 : ∀ b ∈ fp, H3 b = none := fun b hb => (f3 b hb).1
  have stat : ∀ {H' : Hp}, (∀ b ∈ fp, H' b = none) → ∀ b ∈ fp, FpOk (cxD X N' scope h3.objs.size { s2 with heap := h3 } H3 fp pins) [] H' b := fun hn b hb => by
    obtain ⟨g0, g1, g2, g3, g4, g5⟩ := f3 b hb
    obtain ⟨o, e, _⟩ := fpIn3 b hb
    exact ⟨hn b hb, cNe b o e, stkNo b g1 g2, .inl hb, fun x c z => exf b hb x c z, fun p hp => g5 p (by simpa [cxD] using hp)⟩
  have loop : codeAny (model X.prog X.w) X.A (.compLoop (.ListComp elt [⟨tgt, iter, ifs, 0⟩] scope pos) 0 (.ref it) (.ref D) (compEnvC scope (cellsFrom (h3.objs.size + 1) scope.names (clOf X.env scope.names [])) h3.objs.size X.env))
      (compPost (model X.prog X.w) X.A X.xe use R (.ref D) h3.objs.size) { s2 with heap := h', toks := s2.toks } := by
    refine compLoopG (fun n s' => ∃ i σ' H', Inv (cxD X N' scope h3.objs.size { s2 with heap := h3 } H3 fp pins) [] σ' H' s' ∧ tn i s'.heap ∧ (∀ b ∈ fp, H' b = none) ∧ W i n σ' H') ?_ m0 ⟨0, src σ, H3, I4, st4, fr4, w0⟩
    rintro n s5 ⟨i, σ5, H5, I5, st5, fr5, w5⟩
    rcases turn i n σ5 H5 w5 with ⟨stop, qn⟩ | ⟨go, N, hN, step⟩
    · refine wpAny_mono (T.done (cxD X N' scope h3.objs.size { s2 with heap := h3 } H3 fp pins) rfl rfl rfl hcalm i [] s5 σ5 H5 (fun _ _ => False) I5 (stat fr5) st5 stop) (fun r s6 hr => ?_) fun _ _ z => False.elim z
      obtain ⟨hr, I6⟩ := hr
      subst hr
      obtain ⟨mC, hnC, _⟩ := I6.loc
      have IX : Inv X pins σ H5 s6 := I3.call' (s' := s6) (ch := fp) I6.os I6.base I6.hok I6.bare fun b hb => ⟨(f3 b hb).2.2.2.1, (f3 b hb).2.1, (f3 b hb).2.2.2.2.1, (f3 b hb).2.2.2.2.2⟩
      exact fin D H5 s6 h3.objs.size mC IX (I3.fpOk (Nat.le_refl _) I6.free) hnC qn
    · refine wpAny_mono (T.item (cxD X N' scope h3.objs.size { s2 with heap := h3 } H3 fp pins) rfl rfl rfl hcalm i [] s5 σ5 H5 (fun _ _ => False) I5 (stat fr5) st5 go) (fun r s6 hr => ?_) fun _ _ z => False.elim z
      obtain ⟨u, hr, h6⟩ := hr
      subst hr
      refine wpAny_mono h6 (fun _ s7 h7 => ?_) fun _ _ z => False.elim z
      obtain ⟨x, H7, I7, r7, y7, st7, fr7⟩ := h7
      have I7' := I7.pinned (stat fr7) (T.obj _ _ st7)
      refine wpAny_mono (hg _ _ _ _ _ _ s7 σ5 H7 x u _ I7' r7 (step x H7 y7)) (fun _ s8 h8 => ?_) fun _ _ z => False.elim z
      obtain ⟨σ8, H8, I8, q8⟩ := h8
      have again : ∀ {H9 : Hp} {s9 : Shared}, Inv (cxD X N' scope h3.objs.size { s2 with heap := h3 } H3 fp pins) ([] ++ pinsAt fp s7.heap) σ8 H9 s9 → N σ8 H9 → ∃ m, m < n ∧ ∃ i σ' H', Inv (cxD X N' scope h3.objs.size { s2 with heap := h3 } H3 fp pins) [] σ' H' s9 ∧ tn i s9.heap ∧ (∀ b ∈ fp, H' b = none) ∧ W i m σ' H' := fun {H9 s9} I9 n9 => by
        obtain ⟨m', hm, w9⟩ := hN σ8 H9 n9
        refine ⟨m', hm, i + 1, σ8, H9, I9.unpinned, T.keep _ _ _ st7 fun b hb o e => (I9.pin (b, o) (List.mem_append_right _ (List.mem_append_right _ (mem_pinsAt hb e)))).1, fun b hb => ?_, w9⟩
        obtain ⟨o, e, d⟩ := T.obj _ _ st7 b hb
        exact (I9.pin (b, o) (List.mem_append_right _ (List.mem_append_right _ (mem_pinsAt hb e)))).2.1
      refine wpAny_mono (ht _ _ _ _ _ _ s8 σ8 H8 _ I8 q8) (fun ok s9 h9 => ?_) fun _ _ z => False.elim z
      obtain ⟨H9, I9, q9⟩ := h9
      cases ok with
      | false => exact again I9 q9
      | true =>
        refine wpAny_mono (he _ _ _ _ _ _ s9 σ8 H9 _ I9 q9) (fun y s10 h10 => ?_) fun _ _ z => False.elim z
        obtain ⟨vy, H10, I10, r10, ys, hys, hz, nx⟩ := h10
        refine wpAny_mono (mt_append (X := cxD X N' scope h3.objs.size { s2 with heap := h3 } H3 fp pins) _ s10 σ8 H10 (.ref D) [vy] (.ref D) [y] (fun _ H' => N σ8 H') I10 rfl (.cons r10 .nil) ⟨D, ys, vy, rfl, rfl, hys, hz, nx⟩) (fun _ s11 h11 => ?_) fun _ _ z => False.elim z
        obtain ⟨_, H11, I11, _, n11⟩ := h11
        exact again I11 n11
  exact codeAny_compStart_list loop (T.self _ 0 _ _ _ st4 loop)
theorem pe_compC {X : Cx} {N' : List Str} {elt iter tgt : Expr} {ifs : List Expr} {scope : Scope} {pos : Pos} {wi : TI} {src : St → St} {g : TG} {tts : TT} {t : TE} (hcalm : X.calm = true) (sc : CompSd X N' scope src)
    (hi : PI X tgt iter wi) (hg : ∀ C s H fp pins, PG (cxD X N' scope C s H fp pins) tgt g) (ht : ∀ C s H fp pins, PTs (cxD X N' scope C s H fp pins) ifs tts) (he : ∀ C s H fp pins, PE (cxD X N' scope C s H fp pins) elt t)
    (hs : ∀ x, foldedSetIterable iter X.env x = pure x := by intro _; rfl) : PE X (.ListComp elt [⟨tgt, iter, ifs, 0⟩] scope pos) (tComp X.K wi src g tts t) := by
  intro pins s σ H Q I h
  rw [eval_ListComp]
  refine comp_coreC (use := none) hcalm sc hi hg ht he hs I h fun D H5 s6 C mC IX fp hn q => ⟨mC, hn, fun h'' sb => ⟨.ref D, H5, ?_, rfl, q⟩⟩
  exact IX.turned (t' := s6.toks) (fun b o hb e => sb.extBut b o hb e) fp.1 fp.2.1 fp.2.2.2.1 fp.2.2.2.2.1 fp.2.2.2.2.2
theorem ps_compC {X : Cx} {N' : List Str} {elt iter tgt : Expr} {ifs : List Expr} {scope : Scope} {pos spos py : Pos} {wi : TI} {src : St → St} {g : TG} {tts : TT} {t : TE} {i : Nat} {y : Str} (hN : X.N.Nodup) (hi' : X.N[i]? = some y) (hx : Loc X.env.scope y)
    (hsw : swapsWith (.ListComp elt [⟨tgt, iter, ifs, 0⟩] scope pos) (some (.Name y py)) spos.line X.env = pure true) (hf : X.fn y = true ∨ X.env.scope.names.lookup y = some .local)
    (hcalm : X.calm = true) (sc : CompSd X N' scope src)
    (hi : PI X tgt iter wi) (hg : ∀ C s H fp pins, PG (cxD X N' scope C s H fp pins) tgt g) (ht : ∀ C s H fp pins, PTs (cxD X N' scope C s H fp pins) ifs tts) (he : ∀ C s H fp pins, PE (cxD X N' scope C s H fp pins) elt t)
    (hs : ∀ x, foldedSetIterable iter X.env x = pure x := by intro _; rfl) : PS X (.Assign [.Name y py] (.ListComp elt [⟨tgt, iter, ifs, 0⟩] scope pos) spos) (tAsg (tComp X.K wi src g tts t) (gName i)) := by
  intro pins s σ H D I h
  rw [exec_Assign_Name_used _ _ _ _ hsw]
  refine wpAny_bind (wpAny_standAt (wpAny_bind ?_))
  show wpAny _ X.A (do let _ ← comprehension (.ListComp elt [⟨tgt, iter, ifs, 0⟩] scope pos) scope X.env _ (newList []) false (eval iter X.env) (some (assign (.Name y py) X.env))) _ _ s
  refine wpAny_bind (wpAny_mono (comp_coreC (use := some (assign (.Name y py) X.env)) (R := fun _ s' => SP X pins D .next s') hcalm sc hi hg ht he hs I h fun D' H5 s6 C mC IX fp hn q => ?_) (fun _ s' hq => wpAny_pure (wpAny_pure hq)) fun _ _ e => e)
  show wpAny _ X.A (assign (.Name y py) X.env (.ref D')) _ _ s6
  refine wpAny_assign_Name (store_ok2 (v := .ref D') IX hN hi' hx rfl (fun s' I' ha => ?_) hf)
  obtain ⟨a, sb, ha⟩ := ha
  have hCa : C ≠ a := by
    rcases ha with ha | ha
    · rw [ha]; exact fp.2.1
    · exact fun z => fp.2.2.2.2.1 y a ha z.symm
  refine ⟨mC, hn.sameBut sb hCa, fun h'' sb'' => ⟨_, H5, ?_, q⟩⟩
  exact I'.turned (t' := s'.toks) (fun b o hb e => sb''.extBut b o hb e) fp.1 fp.2.1 fp.2.2.2.1 fp.2.2.2.2.1 fp.2.2.2.2.2
theorem p3_compC {X : Cx} {N' : List Str} {elt iter tgt : Expr} {ifs : List Expr} {scope : Scope} {pos : Pos} {im : IM} {ixs : List (Option Nat)} {g : GM} {t : TM} {e : EM} (hcalm : X.calm = true) (sc : CompSd X N' scope (srcL ixs))
    (hi : PI3 X tgt iter im) (hg : ∀ C s H fp pins, PG3 (cxD X N' scope C s H fp pins) tgt g) (ht : ∀ C s H fp pins, PTs (cxD X N' scope C s H fp pins) ifs (tt X.K t)) (he : ∀ C s H fp pins, PE3 (cxD X N' scope C s H fp pins) elt e)
    (hs : ∀ x, foldedSetIterable iter X.env x = pure x := by intro _; rfl) : PE3 X (.ListComp elt [⟨tgt, iter, ifs, 0⟩] scope pos) (eComp im ixs g t e) :=
  PE.imp (pe_compC (g := tg X.K g) (tts := tt X.K t) (t := te X.K e) hcalm sc hi hg ht he hs) comp3
theorem s3_setcC (j : Nat) {X : Cx} {N' : List Str} {elt iter tgt : Expr} {ifs : List Expr} {scope : Scope} {pos spos py : Pos} {y : Str} {im : IM} {ixs : List (Option Nat)} {g : GM} {t : TM} {e : EM} (hN : X.N.Nodup) (hcalm : X.calm = true) (sc : CompSd X N' scope (srcL ixs))
    (hi : PI3 X tgt iter im) (hg : ∀ C s H fp pins, PG3 (cxD X N' scope C s H fp pins) tgt g) (ht : ∀ C s H fp pins, PTs (cxD X N' scope C s H fp pins) ifs (tt X.K t)) (he : ∀ C s H fp pins, PE3 (cxD X N' scope C s H fp pins) elt e)
    (hi' : X.N[j]? = some y := by rfl) (hx : Loc X.env.scope y := by first | exact Or.inl rfl | exact Or.inr rfl)
    (hsw : swapsWith (.ListComp elt [⟨tgt, iter, ifs, 0⟩] scope pos) (some (.Name y py)) spos.line X.env = pure true := by with_unfolding_all rfl) (hf : X.fn y = true ∨ X.env.scope.names.lookup y = some .local := by first | exact .inl rfl | exact .inr rfl | assumption)
    (hs : ∀ x, foldedSetIterable iter X.env x = pure x := by intro _; rfl) : PS3 X (.Assign [.Name y py] (.ListComp elt [⟨tgt, iter, ifs, 0⟩] scope pos) spos) (sAsg (eComp im ixs g t e) (gName3 j)) :=
  PS.imp (ps_compC (g := tg X.K g) (tts := tt X.K t) (t := te X.K e) hN hi' hx hsw hf hcalm sc hi hg ht he hs) fun E σ H hx1_ => by
    obtain ⟨ρ, l, S, f, l', S', sim, ro, hm, p⟩ := hx1_
    obtain ⟨⟨x, S1⟩, q1, hm⟩ := bnd hm
    cases hm
    exact comp3 σ H _ ⟨ρ, l, S, x, S1, sim, ro, q1, fun ρ1 H1 x' e1 s1 r1 => p ρ1 H1 _ e1 s1 ((ro.mono e1).set j r1)⟩
noncomputable def chkD (scO scope : Scope) (NO N' : List Str) (ixs : List (Option Nat)) : Bool :=
  decide (scope.kind = .function) && (scope.names.all fun y => y.2 != .local || scope.names.lookup y.1 == some .local) && (scope.names.all fun y => y.2 != .cell || scope.names.lookup y.1 == some .cell) &&
  (scope.names.all fun y => y.2 != .free || (scO.names.lookup y.1 == some .cell || scO.names.lookup y.1 == some .free)) && (ixs.length == N'.length) &&
  ((List.range ixs.length).all fun i => match ixs[i]? with | some (some j) => (NO[j]? == N'[i]? && (match N'[i]? with | some x => scope.names.lookup x == some .free | none => false)) | _ => true)
theorem compSd_of {X : Cx} {scO scope : Scope} {NO N' : List Str} {ixs : List (Option Nat)} (hX : X.env.scope = scO) (hN : X.N = NO) (h : chkD scO scope NO N' ixs = true) : CompSd X N' scope (srcL ixs) := by
  unfold chkD at h
  simp only [Bool.and_eq_true, decide_eq_true_eq, List.all_eq_true, beq_iff_eq, Bool.or_eq_true, bne_iff_ne, ne_eq] at h
  obtain ⟨⟨⟨⟨⟨h1, h3⟩, h2⟩, h4⟩, h5⟩, h6⟩ := h
  refine ⟨h1, fun y hy hl => ?_, fun y hy hl => ?_, fun y hy => ?_, fun y hy hc => ?_, fun σ => by simp [srcL, h5], fun σ i v x hv hx => ?_⟩
  · rcases h3 y hy with z | z
    · exact absurd hl z
    · exact z
  · show X.env.scope.names.lookup y.1 = _ ∨ X.env.scope.names.lookup y.1 = _
    rw [hX]
    rcases h4 y hy with z | z
    · exact absurd hl z
    · exact z
  · have mem : ∃ k, (k = NameKind.cell ∨ k = NameKind.free) ∧ (y, k) ∈ (relabel scope X.env).names := by
      rcases hy with z | z
      · exact ⟨_, .inl rfl, PySem.mem_of_lookup z⟩
      · exact ⟨_, .inr rfl, PySem.mem_of_lookup z⟩
    obtain ⟨k, hk, hm⟩ := mem
    unfold relabel at hm
    obtain ⟨⟨n, k'⟩, hm1, hm2⟩ := List.mem_map.mp hm
    dsimp only at hm2
    split at hm2
    · rename_i hc
      have : k' = .free := by
        rw [Bool.and_eq_true, Bool.and_eq_true] at hc
        exact eq_of_beq hc.1.1
      cases hm2
      rw [← this]; exact .inl hm1
    · cases hm2
      rcases hk with z | z
      · rw [← z]; exact .inr hm1
      · rw [← z]; exact .inl hm1
  · rcases h2 (y, .cell) hc with z | z
    · exact z rfl
    · rw [hy] at z; cases z
  · have hl : i < ixs.length := by
      have := (List.getElem?_eq_some_iff.mp hv).1
      simpa [srcL] using this
    unfold srcL at hv
    rw [List.getElem?_map] at hv
    have q := h6 i (List.mem_range.mpr hl)
    cases e : ixs[i]? with
    | none => rw [e] at hv; cases hv
    | some o =>
      rw [e] at hv
      cases o with
      | none => cases hv
      | some j =>
        rw [e] at q
        dsimp only at q
        rw [hx] at q
        simp only [Bool.and_eq_true, beq_iff_eq] at q
        have hv : ((σ[j]?).join : Option V) = some v := Option.some.inj hv
        refine ⟨j, by rw [hN]; exact q.1, ?_, q.2⟩
        cases e2 : σ[j]? with
        | none => rw [e2] at hv; cases hv
        | some o2 => rw [e2] at hv; have hv : o2 = some v := hv; rw [hv]
theorem compSc_ofD {X : Cx} {scO scope1 scope2 : Scope} {N1 N' : List Str} {ixs : List (Option Nat)} {C : Addr} {s : Shared} {H : Hp} {fp : List Addr} {pins : List (Addr × Obj)} (hX : X.env.scope = scO) (h : chk (relS scope1 scO) scope2 N1 N' ixs = true) : CompSc (cxD X N1 scope1 C s H fp pins) N' scope2 (srcL ixs) :=
  compSc_of (scO := relS scope1 scO) (NO := N1) (by rw [← hX]; exact relS_eq scope1 X.env) rfl h
end L3
namespace L3
open PySem PySem.Spec PyProof.Rows L2
end L3
namespace SP
open PySem PySem.W PyProof.Rows PySem.Calls
section
variable {prog : Program} {w : World} {A : Around} {E : Value → Shared → Prop} {s : Shared}
end
end SP
namespace L3
open PySem PySem.Spec PyProof.Rows L2
noncomputable def VP (H : Hp) : List V → List SP.Pr → Prop := Paired fun v p => ∃ b, v = .ref b ∧ H b = some (.tup [.int p.1, .int p.2])
theorem VP.length {H : Hp} {vs : List V} {ps : List SP.Pr} (x : VP H vs ps) : vs.length = ps.length := Paired.length x
section
variable {X : Cx}
end
section
variable {X : Cx} {a : Expr} {es : List Expr} {mA : AM} {pos p : Pos}
end
end L3
namespace SP
open PySem PySem.W PyProof.Rows PySem.Calls
noncomputable def DAt (h : Heap) (d : Addr) (es : Array DictEntry) (ep : Nat) : Prop := ∃ o, h.get? d = some o ∧ o.ExactDict ∧ o.data = .dict es ep
section
variable {prog : Program} {w : World} {A : Around} {E : Value → Shared → Prop} {s : Shared} {d it : Addr} {es : Array DictEntry} {ep i : Nat}
theorem DAt.keep {h h' : Heap} (x : DAt h d es ep) (k : ∀ o, h.get? d = some o → h'.get? d = some o) : DAt h' d es ep := let ⟨o, e, r⟩ := x; ⟨o, k o e, r⟩
theorem DAt.lt {h : Heap} (x : DAt h d es ep) : d < h.objs.size := let ⟨_, e, _⟩ := x; Heap.lt_size e
theorem DAt.ty (x : DAt s.heap d es ep) : s.TypeIs (.ref d) "dict" := let ⟨o, e, c, _⟩ := x; ⟨o, e, c.1⟩
end
end SP
namespace L3
open PySem PySem.Spec PyProof.Rows L2
section
variable {X : Cx} {tg : Expr}
end
section
variable {X : Cx} {tgt iter : Expr} {m : EM}
end
section
variable {X : Cx}
end
section
variable {X : Cx} {a : Expr} {es : List Expr} {mA : AM} {pos p : Pos}
end
end L3
namespace L3
open PySem PySem.Spec PyProof.Rows L2
section
variable {X : Cx} {a : Expr}
end
section
variable {prog : Program} {w : World} {A : Around} {E : Value → Shared → Prop} {s : Shared} {c : Addr} {i j : Int} {t u : Tok}
end
section
variable {X : Cx}
end
section
variable {X : Cx} {a : Expr} {es : List Expr} {mA : AM} {pos p : Pos}
end
section
variable {prog : Program} {w : World} {K : Type} [DecidableEq K] {knd : HeapKind prog w K} {A : Around} {E : Value → Shared → Prop} {s : Shared} {d a : Addr} {k : K} {xs : List (K × Addr × Value)} {z : Value}
end
section
variable {X : Cx} {o e f : Expr} {td ty tx : TE} {apos cpos : Pos}
end
section
variable {X : Cx} {o e f : Expr} {mo me mf : EM} {apos cpos : Pos} {k : Nat}
end
end L3
namespace L3
open PySem PySem.Spec PyProof.Rows L2
section
variable {h : Heap} {p : PyData}
end
section
variable {X : Cx} {k : Nat}
variable {a b : Expr} {ma mb : EM} {pos : Pos}
end
section
variable {X : Cx} {k : Nat}
variable {o e : Expr} {mo me : EM} {apos cpos : Pos}
end
section
variable {X : Cx} {o : Expr} {mo : EM} {apos cpos : Pos}
end
section
variable {X : Cx} {pos : Pos} {ke ve : Expr}
end
section
variable {X : Cx} {pos : Pos} {ke ve : Expr} {mk mv : EM} {k : Nat}
end
section
variable {X : Cx}
end
section
variable {X : Cx} {a : Expr} {es : List Expr} {mA : AM} {pos p : Pos}
end
end L3
namespace L3
open PySem PySem.Spec PyProof.Rows L2
section
variable {elt t1 i1 t2 i2 : Expr} {ifs1 ifs2 : List Expr} {scope : Scope} {pos : Pos} {it acc : Value} {env : Env}
noncomputable abbrev two (elt t1 i1 t2 i2 : Expr) (ifs1 ifs2 : List Expr) (scope : Scope) (pos : Pos) : Expr := .ListComp elt [⟨t1, i1, ifs1, 0⟩, ⟨t2, i2, ifs2, 0⟩] scope pos
variable {prog : Program} {w : World} {A : Around} {R : Result → Shared → Prop} {s : Shared}
end
end L3
namespace L3
open PySem PySem.Spec PyProof.Rows L2
noncomputable abbrev RM := Lo → Sto → Option ((Int × Nat) × Sto)
inductive tr (K : PySem.W.Frag) (r : RM) (σ : St) (H : Hp) (R : It → Hp → Prop) : Prop
  | mk (ρ : _) (l : _) (S : _) (lo : _) (n : _) (S' : _) (_ : Sim K ρ S H) (_ : RO ρ H l σ) (_ : r l S = some ((lo, n), S')) (_ : ∀ ρ' H', Ext ρ H ρ' H' → Sim K ρ' S' H' → R (Itr lo n) H')
section
variable {X : Cx} {tgt : Expr} {mA : AM} {p0 pos' : Pos} {a a2 : Expr}
end
end L3
namespace L3
open PySem PySem.Spec PyProof.Rows L2
section
variable {prog : Program} {w : World} {A : Around} {E : Value → Shared → Prop} {s : Shared}
variable {z TI TO i1 i2 c1 c2 : Addr} {n1 n2 k : Nat} {P1 P2 : Nat → Value → Prop} {T1 T2 : Nat → Heap → Prop} {a b : Value}
end
section
variable {prog : Program} {w : World} {A : Around} {E : Value → Shared → Prop} {s : Shared}
variable {z TI TO i1 i2 c1 c2 : Addr} {n1 n2 k : Nat} {P1 P2 : Nat → Value → Prop} {T1 T2 : Nat → Heap → Prop} {a b : Value}
end
end L3
namespace L3
open PySem PySem.Spec PyProof.Rows L2
noncomputable def SqB (t : Bool) (h : Heap) (a : Addr) (vs : Array Value) : Prop := if t then h.IsTuple a vs else h.IsList a vs
theorem SqB.push {t : Bool} {h : Heap} {a : Addr} {vs : Array Value} (q : SqB t h a vs) (o : Obj) : SqB t (h.push o) a vs := by
  cases t with
  | true =>
    obtain ⟨x, e, r⟩ := (q : h.IsTuple a vs)
    exact (⟨x, Heap.get?_push_of_some _ e, r⟩ : (h.push o).IsTuple a vs)
  | false => exact Heap.IsList.push (q : h.IsList a vs) o
section
variable {prog : Program} {w : World} {A : Around} {E : Value → Shared → Prop} {s : Shared}
end
noncomputable def SqK (K : PySem.W.Frag) (t : Bool) (H : Hp) (a : Addr) : Prop := if t then ∃ xs, SqT K H a xs else ∃ xs, SqL K H a xs
theorem SqK.at {X : Cx} {pins : List (Addr × Obj)} {σ : L2.St} {H : Hp} {s : Shared} {t : Bool} {a : Addr} (I : Inv X pins σ H s) (q : SqK X.K t H a) : ∃ vs, SqB t s.heap a vs ∧ a < s.heap.objs.size := by
  cases t with
  | true =>
    obtain ⟨xs, hq⟩ := (q : ∃ xs, SqT X.K H a xs)
    obtain ⟨its, rv, pl, hz⟩ := I.tuple hq
    have pl : s.heap.IsTuple a its.toArray := pl
    obtain ⟨o, e, _⟩ := id pl
    exact ⟨_, pl, Heap.lt_size e⟩
  | false =>
    obtain ⟨xs, hq⟩ := (q : ∃ xs, SqL X.K H a xs)
    obtain ⟨its, rv, pl, hz⟩ := I.list hq
    obtain ⟨o, e, _⟩ := id pl.isList
    exact ⟨_, pl.isList, Heap.lt_size e⟩
end L3
namespace L3
open PySem PySem.Spec PyProof.Rows L2
section
variable {P : Program} {w : World} {K : PySem.W.Frag} {tg : Expr}
end
section
variable {X : Cx} {tg l : Expr} {tl : TE} {m : EM}
end
section
variable {X : Cx} {a b e : Expr} {m ma mb : EM} {pos : Pos} {es : List Expr} {ms : List EM} {out : Str}
end
end L3
namespace L3
open PySem PySem.Spec PyProof.Rows L2 PySem.Builtin PySem.Builtin.Str
section
variable {X : Cx}
variable {o e : Expr} {mo m : EM} {apos cpos : Pos} {name : Str} {id : String} {f : D → List D → Sto → Option (D × Sto)} {r : V → List V → Hp → VK → Prop}
end
end L3
namespace L3
open PySem PySem.Spec PyProof.Rows L2
section
variable {X : Cx} {o : Expr} {mo : EM} {apos cpos : Pos}
end
end L3
namespace L3
open PySem PySem.Spec PyProof.Rows L2
end L3
namespace L3
open PySem PySem.Spec PyProof.Rows L2
section
variable {prog : Program} {w : World} {A : Around} {E : Value → Shared → Prop}
noncomputable def ixBody (its : Array Value) (x : Value) (i : Nat) (_ : Option PySem.Fin × Unit) : Sem (ForInStep (Option PySem.Fin × Unit)) := match its[i]? with
  | some y => do
    let b ← eqBool y x
    if b = true then do
      let r ← retInt i
      pure (ForInStep.done (some r, ()))
    else pure (ForInStep.yield (none, ()))
  | _ => pure (ForInStep.yield (none, ()))
theorem ix_loop {its : Array Value} {x : Int} {u : Tok} {j : Nat} {s : Shared} {Q : Option PySem.Fin × Unit → Shared → Prop} (hj : ∃ t, its[j]? = some (.int x t)) (hb : ∀ m, m < j → ∃ y t, its[m]? = some (.int y t) ∧ y ≠ x)
    (h : Q (some (.done (.ret (.int j s.toks))), ()) { s with toks := s.toks + 1 }) : ∀ (n k : Nat), k ≤ j → j < k + n → wpAny (model prog w) A (forIn (List.range' k n) (none, ()) (ixBody its (.int x u))) Q E s
  | 0, k, h1, h2 => absurd h2 (by omega)
  | n + 1, k, h1, h2 => by
    rw [List.range'_succ, List.forIn_cons]
    by_cases hk : k = j
    · subst hk
      obtain ⟨t, e⟩ := hj
      unfold ixBody
      rw [e]
      refine wpAny_bind (wpAny_bind (wpAny_eqBool_int ?_))
      rw [beq_self_eq_true, if_pos rfl]
      refine wpAny_bind ?_
      unfold retInt
      exact wpAny_bind (wpAny_mkInt (wpAny_pure (wpAny_pure (wpAny_pure h))))
    · obtain ⟨y, t, e, hne⟩ := hb k (by omega)
      have hstep : wpAny (model prog w) A (ixBody its (.int x u) k (none, ())) (fun r s' => r = .yield (none, ()) ∧ s' = s) E s := by
        unfold ixBody
        rw [e]
        refine wpAny_bind (wpAny_eqBool_int ?_)
        rw [if_neg (by simpa using hne)]
        exact wpAny_pure ⟨rfl, rfl⟩
      refine wpAny_bind (thn hstep ?_)
      rintro r s' ⟨rfl, rfl⟩
      exact ix_loop hj hb h n (k + 1) (by omega) (by omega)
theorem call_tuple_index {a : Addr} {its : Array Value} {o : Obj} {e0 : Nat} {s : Shared} {x : Int} {u : Tok} {j : Nat} {Q : Value → Shared → Prop} (ho : s.heap.get? a = some o) (hc : o.cls = .type "tuple") (hd : o.data = .seq its e0)
    (hj : ∃ t, its[j]? = some (.int x t)) (hb : ∀ m, m < j → ∃ y t, its[m]? = some (.int y t) ∧ y ≠ x) (h : Q (.int j s.toks) { s with toks := s.toks + 1 }) :
    wpAny (model prog w) A (call (.builtin "tuple.index") [.ref a, .int x u]) Q E s := by
  refine wpAny_call_entry F.slot_tuple_index ⟨_, ho, hc⟩ F.entry_tuple_index ?_ (F.args_tuple_index_2 _ _)
  unfold Builtin.«tuple.index»
  obtain ⟨hp, g, d, tk, os⟩ := s
  obtain ⟨c1, c2, c3, c4⟩ := o
  dsimp only at hc hd ho
  subst hc hd
  simp only [Std.Legacy.Range.forIn_eq_forIn_range', Std.Legacy.Range.size, Nat.add_sub_cancel, Nat.div_one]
  wp_walk
  have hlt : j < its.size := by
    obtain ⟨t, e⟩ := hj
    exact (Array.getElem?_eq_some_iff.mp e).1
  show wpAny (model prog w) A.in1 (forIn (List.range' 0 (min its.size its.size - 0)) (none, ()) (ixBody its (.int x u))) _ E ⟨hp, g, d, tk, os⟩
  refine ix_loop hj hb ?_ _ 0 (Nat.zero_le _) (by rw [Nat.min_self]; omega)
  exact wpAny_pure ⟨_, rfl, h⟩
end
end L3
namespace L3
open PySem PySem.Spec PyProof.Rows L2
theorem inv_tupD {X : Cx} {pins : List (Addr × Obj)} {σ : St} {H : Hp} {s : Shared} {a : Addr} {xs : List V} (I : Inv X pins σ H s) (h : H a = some (.tup xs)) : ∃ its : List Value, Vals xs its ∧ IsTD s.heap a its.toArray := by
  obtain ⟨_, its, r, p⟩ := I.hok a _ h
  exact ⟨its, r, p⟩
noncomputable def tyTup : V → Hp → Prop := fun x H => ∃ a xs, x = .ref a ∧ H a = some (.tup xs)
theorem tyTup_ok {X : Cx} : TyOk X "tuple" tyTup := by
  intro pins s σ H x v I rx h
  obtain ⟨a, xs, rfl, hH⟩ := h
  cases rx
  obtain ⟨its, r, o, e, c, n, d, hd⟩ := inv_tupD I hH
  exact ⟨⟨o, e, c⟩, fun b z => by cases z; exact ⟨o, e, hd⟩⟩
theorem idx_of {ns : List Int} {x : Int} {j : Nat} (h : ns.idxOf? x = some j) : ns[j]? = some x ∧ ∀ m, m < j → ∃ y, ns[m]? = some y ∧ y ≠ x := by
  unfold List.idxOf? at h
  rw [List.findIdx?_eq_some_iff_getElem] at h
  obtain ⟨hj, h1, h2⟩ := h
  refine ⟨by rw [List.getElem?_eq_getElem hj]; simpa using h1, fun m hm => ⟨ns[m]'(Nat.lt_trans hm hj), List.getElem?_eq_getElem _, ?_⟩⟩
  have := h2 m hm
  simpa using this
theorem vals_int {ns : List Int} {its : List Value} (r : Vals (ns.map V.int) its) {i : Nat} {y : Int} (h : ns[i]? = some y) : ∃ t, its[i]? = some (.int y t) := by
  have e : (ns.map V.int)[i]? = some (.int y) := by rw [List.getElem?_map, h]; rfl
  obtain ⟨u, hu, ru⟩ := r.get e
  obtain ⟨t, rfl⟩ := ru
  exact ⟨t, hu⟩
noncomputable def rIndexT : V → List V → Hp → VK → Prop := fun y vs H Q => ∃ (a : Addr) (ns : List Int) (x : Int) (j : Nat), y = .ref a ∧ vs = [.int x] ∧ H a = some (.tup (ns.map V.int)) ∧ ns.idxOf? x = some j ∧ Q (.int j) H
noncomputable def mIndexT : D → List D → Sto → Option (D × Sto)
  | .tup xs, [.int x], S => (intsD xs).bind fun ns => (ns.idxOf? x).bind fun j => some (.int j, S)
  | _, _, _ => none
section
variable {X : Cx}
theorem mt_indexT : MtM X "tuple.index" rIndexT := by
  intro pins s σ H y vs v us Q I ry rv h
  obtain ⟨a, ns, x, j, rfl, rfl, hH, hj, q⟩ := h
  cases ry
  obtain ⟨u, rfl, ru⟩ := rv.one
  obtain ⟨t, rfl⟩ := ru
  obtain ⟨its, r, o, e, c, n, d, hd⟩ := inv_tupD I hH
  obtain ⟨h1, h2⟩ := idx_of hj
  refine call_tuple_index e c d (j := j) ?_ (fun m hm => ?_) ⟨.int j, H, I.tok _, ⟨_, rfl⟩, q⟩
  · obtain ⟨t, ht⟩ := vals_int r h1
    exact ⟨t, by simpa using ht⟩
  · obtain ⟨y, hy, hne⟩ := h2 m hm
    obtain ⟨t, ht⟩ := vals_int r hy
    exact ⟨y, t, by simpa using ht, hne⟩
theorem mt3_indexT {K : PySem.W.Frag} : Mt3 K mIndexT rIndexT := by
  intro ρ S H x x' xs vs v S' Q sim rx r h p
  unfold mIndexT at h
  split at h
  · obtain ⟨ns, h1, h⟩ := bnd h
    obtain ⟨j, h2, h⟩ := bnd h
    cases h
    obtain ⟨w, rfl, rw'⟩ := r.one
    cases rw'
    cases rx with
    | tup ha rr =>
      have := intsD_rd h1 rr
      subst this
      exact ⟨_, ns, _, j, rfl, rfl, ha, h2, p ρ H _ (Ext.refl ..) sim (.int _)⟩
  · cases h
noncomputable def isTp : D → Option Unit
  | .tup _ => some ()
  | _ => none
noncomputable def eMethU (f : D → List D → Sto → Option (D × Sto)) (o : EM) (as : AM) : EM := fun l S => (o l S).bind fun p => (isTp p.1).bind fun _ => (as l p.2).bind fun q => f p.1 q.1 q.2
variable {o e : Expr} {mo m : EM} {apos cpos : Pos}
theorem p3_indexT (ho : PE3 X o mo) (he : PE3 X e m)
    (hbase : attributeBase o "index" X.env (eval o X.env) = eval o X.env := by rfl)
    (hfew : ((backTo cpos (starEach [e] X.env)).all (fun x => !x.1) && (backToKw cpos (keywordEach [] X.env)).all (fun x => x.1.isSome)
      && decide ([e].length + ([] : List Keyword).length + (if ([] : List Keyword).isEmpty then 0 else 1) < 30)) = true := by rfl)
    (hline : (apos.endLine == cpos.line) = true := by rfl) (hs : starEach [e] X.env = (false, eval e X.env) :: starEach [] X.env := by rfl) :
    PE3 X (.Call (.Attribute o "index" apos) [e] [] cpos) (eMethU mIndexT mo (aCons m aNil)) :=
  PE.imp (pe_bmT tyTup_ok PySem.F.plainAttrs_tuple PySem.F.slot_tuple_index PySem.F.type_tuple_index mt_indexT ho (a3_cons he a3_nil hs) hbase hfew hline hs rfl) fun σ H Q hx2_ => by
    obtain ⟨ρ, l, S, v, S', sim, ro, hq, p⟩ := hx2_
    obtain ⟨⟨x, S1⟩, h1, hq⟩ := bnd hq
    obtain ⟨_, h2, hq⟩ := bnd hq
    obtain ⟨⟨ys, S2⟩, h4, hq⟩ := bnd hq
    refine ⟨ρ, l, S, x, S1, sim, ro, h1, fun ρ1 H1 x' e1 s1 r1 => ⟨?_, ρ1, l, S1, ys, S2, s1, ro.mono e1, h4, fun ρ2 H2 vs e2 s2 r2 => mt3_indexT ρ2 S2 H2 x x' ys vs v S' Q s2 (r1.mono e2) r2 hq (p.ext (e1.trans e2))⟩⟩
    cases r1 with
    | @tup xs a us ha rr => exact ⟨a, us, rfl, ha⟩
    | _ => cases h2
end
end L3
namespace L3
open PySem PySem.Spec PyProof.Rows L2
theorem sub_tup_set : isSubtype (.type "tuple") (.type "set") = pure false := by rw [isSubtype_type]; kernel_rfl
theorem sub_tup_fset : isSubtype (.type "tuple") (.type "frozenset") = pure false := by rw [isSubtype_type]; kernel_rfl
noncomputable abbrev nSet (led : Bool) : Obj := { cls := .type "set", dict := none, data := .set #[] 0 (.fresh 0 0 led) }
section
variable {prog : Program} {w : World} {A : Around} {E : Value → Shared → Prop} {s : Shared}
noncomputable abbrev dis (ns : List Int) (n : Nat) : List Int := firstMet (fun i => ns.getD i 0) n
theorem set_init_tup {t d : Addr} {its : Array Value} {ns : List Int} {led : Bool} {Q : PySem.Fin → Shared → Prop} (hh : A.handled = none) (ht : s.heap.IsTuple t its) (hi : IntsAre its.toList ns) (hb : its.size + 1 < scanBound)
    (hd : s.heap.get? d = some (nSet led)) (htd : t ≠ d)
    (h : ∀ (h' : Heap) (tk : Nat), h'.SetOf (intKind prog w) d (fun k' => (dis ns its.size).any (· == k')) (dis ns its.size).length → (∀ b o, b ≠ d → s.heap.get? b = some o → h'.get? b = some o) → Q (.done (.ret .none)) { s with heap := h', toks := tk }) :
    wpAny (model prog w) A (Builtin.«set.__init__» ⟨[.ref d, .ref t], []⟩) Q E s := by
  obtain ⟨ol, hol, hcl, nl, hdl⟩ := id ht
  have hTs : s.TypeIs (.ref d) "set" := ⟨_, hd, rfl⟩
  have hTt : s.TypeIs (.ref t) "tuple" := ⟨_, hol, hcl⟩
  have q1 := sub_tup_set
  have q2 := sub_tup_fset
  obtain ⟨hp, g, dr, tk, os⟩ := s
  obtain ⟨c1, c2, c3, c4⟩ := ol
  dsimp only at hcl hdl hol
  subst hcl hdl
  unfold Builtin.«set.__init__» noKeywords Builtin.Frozenset.updateFrom
  generalize hPI : pyIter = PI
  wp_walk
  subst hPI
  have ht' : hp.IsTuple t its := ht
  have lt1 : t < hp.objs.size := Heap.lt_size hol
  have lt2 : d < hp.objs.size := Heap.lt_size hd
  refine wpAny_pyIter_tuple ht' (wpAny_bind (wpAny_runValue ?_))
  have vi : ∀ (i : Nat) (v : Value), its[i]? = some v → ∃ t, v = .int (ns.getD i 0) t := fun i v hv => IntsAre.int_at hi i v (by rw [Array.getElem?_toList]; exact hv)
  have nf : d ∉ [hp.objs.size, t] := by
    simp only [List.mem_cons, List.not_mem_nil, or_false, not_or]
    exact ⟨Nat.ne_of_lt lt2, Ne.symm htd⟩
  refine codeAny_set_update_loopS (Walks.tuple (by simpa using hh) hp.objs.size t (Nat.ne_of_lt lt1) its).toS d nf (fun i => ns.getD i 0) vi hb (its.size - 0) 0 _ (by omega) (Nat.zero_le _) ⟨⟨_, Heap.get?_push_size _ rfl, rfl, rfl⟩, ?_⟩ ?_ fun s' mv hS => ?_
  · obtain ⟨o, e, r⟩ := id ht'
    exact ⟨o, Heap.get?_push_of_some _ e, r⟩
  · exact SetOf_congr ((setObjOf_fresh (knd := intKind prog w) led).setOf (Heap.get?_push_of_some _ hd) (by unfold scanBound; omega)) (fun _ => rfl) rfl
  · obtain ⟨h', g', d', tk', os'⟩ := s'
    have eg : g' = g := mv.gens
    have ed : d' = dr := mv.drawn
    have eo : os' = os := mv.os
    subst eg ed eo
    refine wpAny_pure (wpAny_pure (h h' tk' hS fun b o hb e => ?_))
    exact mv.heap b o (by simp only [List.mem_cons, List.not_mem_nil, or_false, not_or]; exact ⟨hb, Nat.ne_of_lt (Heap.lt_size e)⟩) (Heap.get?_push_of_some _ e)
theorem call_set_tup {t : Addr} {its : Array Value} {ns : List Int} {Q : Value → Shared → Prop} (hh : A.handled = none) (ht : s.heap.IsTuple t its) (hi : IntsAre its.toList ns) (hb : its.size + 1 < scanBound)
    (h : ∀ (h' : Heap) (tk : Nat), h'.SetOf (intKind prog w) s.heap.objs.size (fun k' => (dis ns its.size).any (· == k')) (dis ns its.size).length → (∀ b o, s.heap.get? b = some o → h'.get? b = some o) → Q (.ref s.heap.objs.size) { s with heap := h', toks := tk }) :
    wpAny (model prog w) A (call (.type "set") [.ref t]) Q E s := by
  obtain ⟨c, tl, k0⟩ := F.called_set.mro; have k1 := F.called_set.made; have k2 := F.called_set.sub
  refine wpAny_call (codeAny_of_tree (show wpAny _ _ (callAny (.type "set") _) _ _ _ from ?_))
  refine wpAny_pure ⟨Code.quiet_builtin _ (by decide +kernel), codeAny_builtin F.entry_type_call ?_⟩; rw [Around.under_plain (weight_type_call_type "set" [.ref t] []) rfl]
  have k3 := F.called_set.notType; have k4 := F.called_set.canCreate; have k5 := F.typeCall_set_1 (.ref t)
  repeat (any_goals (first | assumption | wp_step))
  refine codeAny_mono (code_set_new_1 (.ref t) (E := E) (Q₁ := fun x s1 => ∃ led, x = .ref s.heap.objs.size ∧ s1 = { s with heap := s.heap.push (nSet led) }) fun led => ⟨led, rfl, rfl⟩) fun r s1 hr => ?_
  match r, hr with
  | .error e, hr => exact hr
  | .ok .next, hr => exact hr.elim
  | .ok .brk, hr => exact hr.elim
  | .ok .cont, hr => exact hr.elim
  | .ok (.ret x), hr =>
    obtain ⟨led, rfl, rfl⟩ := hr
    have g1 : (s.heap.push (nSet led)).get? s.heap.objs.size = some (nSet led) := Heap.get?_push_size _ rfl
    have g2 : Shared.TypeIs { s with heap := s.heap.push (nSet led) } (.ref s.heap.objs.size) "set" := ⟨_, g1, rfl⟩
    have k6 := F.called_set.init.lookup; have k7 := F.called_set.init.bind (.ref s.heap.objs.size)
    repeat (any_goals (first | assumption | wp_step))
    have ht' : (s.heap.push (nSet led)).IsTuple t its := by
      obtain ⟨o, e, q⟩ := ht
      exact ⟨o, Heap.get?_push_of_some _ e, q⟩
    have lt1 : t ≠ s.heap.objs.size := by
      obtain ⟨o, e, q⟩ := ht
      exact Nat.ne_of_lt (Heap.lt_size e)
    refine codeAny_mono (codeAny_call_builtin (R := wants (fun r s2 => r = .none ∧ ∃ h' tk, s2 = { s with heap := h', toks := tk } ∧ h'.SetOf (intKind prog w) s.heap.objs.size (fun k' => (dis ns its.size).any (· == k')) (dis ns its.size).length ∧ ∀ b o, s.heap.get? b = some o → h'.get? b = some o) E) F.called_set.init.plain F.entry_set_init
      (check_set_init_1 g2 (set_init_tup (led := led) (by simpa using hh) ht' hi hb g1 lt1 fun h' tk hS hk => ⟨rfl, h', tk, rfl, hS, fun b o e => hk b o (Nat.ne_of_lt (Heap.lt_size e)) (Heap.get?_push_of_some _ e)⟩))) fun r2 s2 hr2 => ?_
    match r2, hr2 with
    | .error e, hr2 => exact hr2
    | .ok .next, hr2 => exact hr2.elim
    | .ok .brk, hr2 => exact hr2.elim
    | .ok .cont, hr2 => exact hr2.elim
    | .ok (.ret y), hr2 =>
      obtain ⟨rfl, h', tk, rfl, hS, hk⟩ := hr2
      repeat (any_goals (first | assumption | wp_step))
      exact h _ _ hS hk
end
end L3
namespace L3
open PySem PySem.Spec PyProof.Rows L2
noncomputable def fSetI : FM
  | [.tup xs], S => (intsD xs).bind fun ns => if ns.length + 1 < scanBound then some (.ref S.length, S ++ [.iset (fun k => (dis ns ns.length).any (· == k)) (dis ns ns.length).length]) else none
  | _, _ => none
noncomputable def fLenI : FM
  | [.ref n], S => match S[n]? with
    | some (.iset _ k) => if k < scanBound then some (.int k, S) else none
    | _ => none
  | _, _ => none
theorem ints_are : ∀ {ns : List Int} {its : List Value}, Vals (ns.map V.int) its → IntsAre its ns
  | [], its, r => by cases r; exact .nil
  | n :: ns, its, r => by
    cases r with
    | cons p q => obtain ⟨t, rfl⟩ := p; exact .cons n t (ints_are q)
noncomputable def rSetI : List V → Hp → VK → Prop := fun xs H Q => ∃ (a : Addr) (ns : List Int), xs = [.ref a] ∧ H a = some (.tup (ns.map V.int)) ∧ ns.length + 1 < scanBound ∧ ∀ l, H l = none → Q (.ref l) (upd H l (.set (fun k => (dis ns ns.length).any (· == k)) (dis ns ns.length).length))
noncomputable def rLenI : List V → Hp → VK → Prop := fun xs H Q => ∃ (a : Addr) (f : Int → Bool) (k : Nat), xs = [.ref a] ∧ H a = some (.set f k) ∧ k < scanBound ∧ Q (.int k) H
section
variable {X : Cx} {K : PySem.W.Frag} {a : Expr} {es : List Expr} {mA : AM} {pos p : Pos} {k : Nat}
theorem call_setI (hr : Room k X.A) : CallR X (.type "set") rSetI := by
  intro pins s σ H xs us Q I r h
  obtain ⟨b, ns, rfl, hH, hb, q⟩ := h
  obtain ⟨u, rfl, ru⟩ := vals1 r
  cases ru
  obtain ⟨its, rv, o, e, c, n, d, hd⟩ := inv_tupD I hH
  have hl : its.toArray.size = ns.length := by have := rv.length; simp at this; simp; omega
  refine call_set_tup (its := its.toArray) (ns := ns) hr.hd ⟨o, e, c, n, d⟩ (by simpa using ints_are rv) (by rw [hl]; exact hb) fun h' tk hS hk => ?_
  rw [hl] at hS
  exact ⟨.ref s.heap.objs.size, _, I.laid (o := .set _ _) hk (Nat.le_refl _) hS, rfl, q _ I.fresh⟩
theorem call_lenI : CallR X (.builtin "len") rLenI := by
  intro pins s σ H xs us Q I r h
  obtain ⟨b, f, j, rfl, hH, hj, q⟩ := h
  obtain ⟨u, rfl, ru⟩ := vals1 r
  cases ru
  obtain ⟨o, es, ep, t, ho, hex, hd, _, _, _, hf, hn⟩ := (show s.heap.SetOf (intKind X.prog X.w) b f j from I.hok b _ hH)
  have h4 : (4096 : Nat) = scanBound := rfl
  refine call_len_set ho hex hd hf (by omega) ?_
  rw [hn]
  exact ⟨.int j, H, I.tok _, ⟨_, rfl⟩, q⟩
theorem fn3_setI : Fn3 K fSetI rSetI := by
  intro ρ S H xs vs v S' Q sim r h p
  unfold fSetI at h
  split at h
  · obtain ⟨ns, h1, h⟩ := bnd h
    obtain ⟨hz, e⟩ := ite_some h
    cases e
    obtain ⟨w, rfl, rw'⟩ := r.one
    cases rw' with
    | tup ha rr =>
      have := intsD_rd h1 rr
      subst this
      exact ⟨_, ns, rfl, ha, hz, fun l hl => p (ρ ++ [l]) _ _ (ext_newG hl) (sim.pushG hl upd_same) (.ref (by rw [← sim.len]; exact get_self ρ l))⟩
  · cases h
theorem fn3_lenI : Fn3 K fLenI rLenI := by
  intro ρ S H xs vs v S' Q sim r h p
  unfold fLenI at h
  split at h
  · split at h
    · rename_i n S f j e
      obtain ⟨hz, e2⟩ := ite_some h
      cases e2
      obtain ⟨w, rfl, rw'⟩ := r.one
      cases rw' with
      | ref hn => exact ⟨_, f, j, rfl, sim.at' _ _ _ hn e, hz, p ρ H _ (Ext.refl ..) sim (.int _)⟩
    · cases h
  · cases h
theorem boot_set' : bootBuiltins "set" = some (.type "set") := by decide +kernel
theorem p3_setI (hr : Room k X.A) (hg : Gl X "set") (hm : X.mg "set" = none) (ha : PA3 X (a :: es) mA) (he : starEach (a :: es) X.env = (false, eval a X.env) :: starEach es X.env := by rfl) (hpl : (backTo pos (starEach es X.env)).any (·.1) = false := by rfl) : PE3 X (.Call (.Name "set" p) (a :: es) [] pos) (eCall fSetI mA) :=
  p3_callTy (call_setI hr) fn3_setI hg hm boot_set' ha (by decide) (by decide) he hpl
theorem p3_lenI (hg : Gl X "len") (hm : X.mg "len" = none) (ha : PA3 X (a :: es) mA) (he : starEach (a :: es) X.env = (false, eval a X.env) :: starEach es X.env := by rfl) (hpl : (backTo pos (starEach es X.env)).any (·.1) = false := by rfl) : PE3 X (.Call (.Name "len" p) (a :: es) [] pos) (eCall fLenI mA) :=
  p3_callB call_lenI fn3_lenI hg hm PySem.boot_len ha (by decide) (by decide) he hpl
end
theorem dis_len (ns : List Int) : (dis ns ns.length).length = ns.length ↔ ns.Nodup := by
  have key : ∀ (l acc : List Int), acc.Nodup → ((l.foldl step_dedup acc).length = acc.length + l.length ↔ (acc ++ l).Nodup) ∧ (l.foldl step_dedup acc).length ≤ acc.length + l.length := by
    intro l
    induction l with
    | nil => intro acc h; simp [h]
    | cons x l ih =>
      intro acc h
      rw [List.foldl_cons]
      unfold step_dedup
      by_cases hx : acc.any (· == x) = true
      · rw [if_pos hx]
        obtain ⟨i1, i2⟩ := ih acc h
        have hm : x ∈ acc := by simpa using hx
        constructor
        · constructor
          · intro z; simp only [List.length_cons] at z; have i2 := i2; unfold step_dedup at i2; omega
          · intro z
            rw [List.nodup_append] at z
            exact absurd rfl (z.2.2 x hm x List.mem_cons_self)
        · simp only [List.length_cons]; unfold step_dedup at i2; omega
      · rw [if_neg hx]
        have hm : x ∉ acc := by simpa using hx
        have hn : (acc ++ [x]).Nodup := by rw [List.nodup_append]; exact ⟨h, by simp, fun a ha b hb => by rw [List.mem_singleton.mp hb]; exact fun z => hm (z ▸ ha)⟩
        obtain ⟨i1, i2⟩ := ih (acc ++ [x]) hn
        unfold step_dedup at i1 i2
        rw [List.length_append, List.length_singleton] at i1 i2
        rw [List.append_assoc] at i1
        constructor
        · rw [List.length_cons, show l.length + 1 = 1 + l.length from Nat.add_comm _ _, ← Nat.add_assoc]
          exact i1
        · simp only [List.length_cons]; omega
  have e : dis ns ns.length = ns.foldl step_dedup [] := by
    unfold dis firstMet
    congr 1
    apply List.ext_getElem?
    intro i
    rw [List.getElem?_map]
    by_cases hi : i < ns.length
    · rw [List.getElem?_range hi, List.getElem?_eq_getElem hi]; simp [hi]
    · rw [List.getElem?_eq_none (by simpa using hi), List.getElem?_eq_none (by simpa using hi)]; rfl
  rw [e]
  simpa using (key ns [] List.nodup_nil).1
end L3
namespace SP
open PySem PySem.W PyProof.Rows PySem.Calls
section
variable {prog : Program} {w : World} {A : Around} {E : Value → Shared → Prop} {s : Shared}
end
end SP
namespace L3
open PySem PySem.Spec PyProof.Rows L2
section
variable {X : Cx} {K : PySem.W.Frag} {a : Expr} {es : List Expr} {mA : AM} {pos p : Pos}
end
end L3
namespace L3
open PySem PySem.Spec PyProof.Rows L2
section
variable {X : Cx} {a b : Expr} {ma mb : EM} {pos : Pos}
end
end L3
namespace L3
open PySem PySem.Spec PyProof.Rows L2
theorem CompSc.toSd {X : Cx} {N' : List Str} {scope : Scope} {src : St → St} (h : CompSc X N' scope src) : CompSd X N' scope src :=
  ⟨h.kind, h.names, h.free, fun y z => .inl (h.rel y z), fun y _ z => h.nocell _ z rfl, h.len, h.src⟩
end L3
namespace L3
open PySem PySem.Spec PyProof.Rows L2
theorem triples_snoc {a b c : Value} {i j : Int} {t u : Tok} (ha : a = .int i t) (hb : b = .int j u) : ∀ {l : List Value}, TriplesOk l → TriplesOk (l ++ [a, b, c]) := by
  intro l h
  subst ha hb
  fun_induction TriplesOk l with
  | case1 => exact trivial
  | case2 a t b u x rest ih => exact ih h
  | case3 => exact h.elim
theorem among_snoc {pos : Pos} {a b c cv : Value} : ∀ {l : List Value}, TriplesOk l → codeAmong pos (l ++ [a, b, c]) = some cv → codeAmong pos l = some cv ∨ cv = c := by
  intro l h e
  fun_induction TriplesOk l with
  | case1 =>
    simp only [List.nil_append] at e
    unfold codeAmong at e
    split at e
    · rename_i heq
      injection heq with h1 h2
      injection h2 with h3 h4
      injection h4 with h5 h6
      split at e
      · cases e; exact .inr h5.symm
      · rw [← h6] at e; simp [codeAmong] at e
    · cases e
  | case2 a t b u x rest ih =>
    simp only [List.cons_append] at e
    unfold codeAmong at e ⊢
    try dsimp only at e ⊢
    split at e
    · rename_i hc; rw [if_pos hc]; exact .inl e
    · rename_i hc; rw [if_neg hc]; exact ih h e
  | case3 => exact h.elim
noncomputable def Made (H H' : Hp) (qual : Str) (P c : Addr) : Prop := CodeF H' qual c ∧ (H' = H ∨ ∃ oc ps', H c = none ∧ c ≠ P ∧ H' = upd (upd H c (.frz oc hTr)) P (.tbl ps') ∧ TabOk H' qual ps')
section
variable {X : Cx} {pins : List (Addr × Obj)} {σ : L2.St} {H : Hp} {s : Shared} {M : Model} {A : Around} {E : Value → Shared → Prop}
theorem lam_made {params : Arguments} {body : Expr} {scope : Scope} {pos : Pos} {qual : Str} {c P : Addr} {ps : Array Value} {clos : List (Str × Addr)} {Q : Value → Shared → Prop}
    (I : Inv X pins σ H s) (hcode : X.env.code = .ref c) (hC : PySem.W.codeHdIn X.K c P = true) (hP : H P = some (.tbl ps)) (hT : TabOk H qual ps) (hq : X.env.qual ++ "<lambda>" = qual)
    (hdef : defaultsOf params X.env = ([], [])) (hcl : closureFor scope X.env = pure clos)
    (h : ∀ f c' pm ctv H' s', Made H H' qual P c' → Inv X pins σ H' s' → s'.heap.get? f = some (PySem.W.kla_obj "<lambda>" qual params body scope clos pm c' ctv) → H' f = none → s.heap.objs.size ≤ f → Q (.ref f) s') :
    wpAny M A (eval (.Lambda params body scope pos) X.env) Q E s := by
  have hPh : s.heap.get? P = some (PySem.W.tabObj ps) := I.hok P _ hP
  have C : PySem.W.CodeHd s.heap c P := PySem.W.codeHd_of_K I.kIn hC
  have hg : s.heap.Ns mainGlobals X.mg := I.mod.glob.keeps I.bk
  obtain ⟨bm, ob, b1, b2, b3, b4, b5, b6⟩ := I.mod.bm
  have neT : ∀ {b : Addr} {o : Obj}, X.base.get? b = some o → b ≠ P := fun {b o} e z => by
    have := (I.bs b o e).2
    rw [z, hP] at this; cases this
  have hgP : mainGlobals ≠ P := by
    obtain ⟨o, es, ep, e, _⟩ := I.mod.glob
    exact neT e
  have hbG : bm ≠ mainGlobals := fun q => by
    obtain ⟨o, es, ep, e, hd, _⟩ := I.mod.glob
    rw [q, e] at b3; cases b3; rw [hd] at b6; cases b6
  have hB : s.heap.BuiltinsAt X.mg P := ⟨bm, ob, b1, b2, hbG, neT b3, I.bk _ _ b3, b4, b5, b6⟩
  refine PySem.W.kla_eval hdef ?_
  rw [hq]
  cases hf : codeAmong pos ps.toList with
  | some cv =>
    obtain ⟨c', rfl, kc⟩ := hT.2 pos cv hf
    refine PySem.W.kla_makeFunctionHit (mg := X.mg) hcl I.ok.glob hg hcode C hPh hT.1 hf hB fun ctv h' tk hk hsz => ?_
    have I1 : Inv X pins σ H { s with heap := h'.push { cls := .type "function", data := .func (PySem.W.kla_fn "<lambda>" qual params body scope clos ((X.mg "__name__").getD .none) (.ref c') ctv) }, toks := tk } :=
      I.kept fun b o e => Heap.get?_push_of_some _ (hk b o e)
    exact h _ c' _ ctv H _ ⟨kc, .inl rfl⟩ I1 (Heap.get?_push_size _ rfl) (I.hok.fresh hsz) hsz
  | none =>
    refine PySem.W.kla_makeFunction (mg := X.mg) hcl I.ok.glob hg hcode C hPh hT.1 hf hgP hB fun c' ctv h' tk hx hge hlt hrec htb => ?_
    obtain ⟨c₂, oc, vs, t, e2, hoc, hd, hv⟩ := hrec
    cases e2
    have hc0 : H c' = none := I.hok.fresh hge
    have hcP : c' ≠ P := fun z => by rw [z, hP] at hc0; cases hc0
    have kp : ∀ b o, b ≠ P → s.heap.get? b = some o → (h'.push (PySem.W.kla_obj "<lambda>" qual params body scope clos ((X.mg "__name__").getD .none) c' ctv)).get? b = some o := fun b o hb e => Heap.get?_push_of_some _ (hx b o hb e)
    have hP' : (h'.push (PySem.W.kla_obj "<lambda>" qual params body scope clos ((X.mg "__name__").getD .none) c' ctv)).get? P = some (PySem.W.tabObj (ps ++ #[rawInt pos.line, rawInt pos.col, .ref c'])) := Heap.get?_push_of_some _ htb
    have hc' : (h'.push (PySem.W.kla_obj "<lambda>" qual params body scope clos ((X.mg "__name__").getD .none) c' ctv)).get? c' = some oc := Heap.get?_push_of_some _ hoc
    have nP : ∀ b, H b = none → b ≠ P := fun b n z => by rw [z, hP] at n; cases n
    have nc : ∀ b u, H b = some u → b ≠ c' := fun b u e z => by rw [z, hc0] at e; cases e
    have keepH : ∀ b u, H b = some u → b ≠ P → upd (upd H c' (.frz oc hTr)) P (.tbl (ps ++ #[rawInt pos.line, rawInt pos.col, .ref c'])) b = some u := fun b u e hb => by
      rw [upd_ne hb, upd_ne (nc b u e)]; exact e
    have I1 : Inv X pins σ (upd (upd H c' (.frz oc hTr)) P (.tbl (ps ++ #[rawInt pos.line, rawInt pos.col, .ref c']))) { s with heap := h'.push (PySem.W.kla_obj "<lambda>" qual params body scope clos ((X.mg "__name__").getD .none) c' ctv), toks := tk } := by
      refine I.un ⟨fun b o e n _ _ => kp b o (nP b n) e, fun b o e n _ _ => ⟨o.slots, kp b o (nP b n) e⟩, fun b o e n _ => ?_, fun b o e _ => ?_, fun b xs e => keepH b _ e (ne_of e hP (by intro z; cases z)), fun b o u e => keepH b _ e (ne_of e hP (by intro z; cases z)), fun b qs e => ?_⟩ fun b u e => ?_
      · rw [upd_ne (nP b n), upd_ne (fun z => absurd (Nat.lt_of_lt_of_le (Heap.lt_size e) hge) (by rw [z]; exact Nat.lt_irrefl _))]; exact n
      · by_cases hb : b = P
        · exact ⟨_, hb ▸ hP'⟩
        · exact ⟨o, kp b o hb e⟩
      · by_cases hb : b = P
        · subst hb
          rw [hP] at e; cases e
          exact ⟨_, upd_same⟩
        · exact ⟨#[], by rw [keepH b _ e hb]; simp⟩
      · by_cases hb : b = P
        · subst hb
          rw [upd_same] at e; cases e
          exact hP'
        · rw [upd_ne hb] at e
          by_cases hbc : b = c'
          · subst hbc
            rw [upd_same] at e; cases e
            exact ⟨hc', trivial, ⟨_, hc'⟩, fun _ _ _ _ => trivial⟩
          · rw [upd_ne hbc] at e
            refine (I.hok b u e).stay (fun d v hd r => kp d v ?_ r) (fun d r => keepH d _ r (ne_of r hP (by intro z; cases z))) fun d xs r => keepH d _ r (ne_of r hP (by intro z; cases z))
            rcases hd with z | z
            · rw [z]; exact hb
            · exact ne_of z hP (by intro z; cases z)
    have kc : CodeF (upd (upd H c' (.frz oc hTr)) P (.tbl (ps ++ #[rawInt pos.line, rawInt pos.col, .ref c']))) qual c' := ⟨oc, vs, t, by rw [upd_ne hcP, upd_same], hd, hv⟩
    refine h _ c' _ ctv _ _ ⟨kc, .inr ⟨oc, _, hc0, hcP, rfl, ?_, fun pos' cv e => ?_⟩⟩ I1 (Heap.get?_push_size _ rfl) ?_ (Nat.le_trans hge (Nat.le_of_lt hlt))
    · rw [Array.toList_append]
      exact triples_snoc rfl rfl hT.1
    · rw [Array.toList_append] at e
      rcases among_snoc hT.1 e with e | e
      · obtain ⟨d, e1, oc2, vs2, t2, e3, e4⟩ := hT.2 pos' cv e
        exact ⟨d, e1, oc2, vs2, t2, keepH d _ e3 (ne_of e3 hP (by intro z; cases z)), e4⟩
      · exact ⟨c', e, kc⟩
    · have hs : s.heap.objs.size ≤ h'.objs.size := Nat.le_trans hge (Nat.le_of_lt hlt)
      rw [upd_ne (fun z => ?_), upd_ne (Nat.ne_of_gt hlt)]
      · exact I.hok.fresh hs
      · have := Heap.lt_size htb
        rw [z] at this; exact absurd this (Nat.lt_irrefl _)
end
section
variable {K : PySem.W.Frag} {ρ : List Addr} {H H' : Hp} {S : Sto}
theorem made_ext {qual : Str} {P c : Addr} {n : Nat} (hn : ρ[n]? = some P) (hP : ∃ ps, H P = some (.tbl ps)) (m : Made H H' qual P c) : Ext ρ H ρ H' := by
  obtain ⟨ps, hP⟩ := hP
  obtain ⟨_, rfl | ⟨oc, ps', h1, h2, rfl, h3⟩⟩ := m
  · exact Ext.refl ..
  · exact (ext_new h1).trans (ext_updG (u := .tbl ps) hn (by rw [upd_ne h2.symm]; exact hP) ⟨fun _ z => (by cases z), fun _ _ z => (by cases z)⟩)
theorem Sim.made {x : Str} {P c : Addr} {n : Nat} (s : Sim K ρ S H) (hn : ρ[n]? = some P) (hS : S[n]? = some (.tab x)) (m : Made H H' (lamQ x) P c) : Sim K ρ S H' := by
  obtain ⟨c0, ps, t1, t2, hP, _⟩ := s.at' n P _ hn hS
  obtain ⟨_, rfl | ⟨oc, ps', h1, h2, rfl, h3⟩⟩ := m
  · exact s
  · have e := (s.laid (u := .frz oc hTr) h1).setG (o1 := .tab x) (u1 := .tbl ps') hn hS rfl (by rw [upd_ne h2.symm]; exact hP) ⟨fun _ z => (by cases z), fun _ _ z => (by cases z)⟩ ⟨c0, ps', t1, t2, upd_same, h3⟩
    have hl := List.getElem?_eq_some_iff.mp hS
    rwa [show S.set n (.tab x) = S from by rw [← hl.2, List.set_getElem_self]] at e
end
end L3
namespace SK
open PySem PySem.W PyProof.Rows PySem.Calls
section
variable {prog : Program} {w : World} {A : Around} {E : Value → Shared → Prop} {s : Shared}
theorem collectG {R : List Value → Shared → Prop} {r : Addr} {a b c : Int} {t u v : Tok} {n : Nat} (hh : A.handled = none) (hr : IsRange s.heap r a b c t u v) (hsm : Builtin.Range.small a b c = true) (hn : Builtin.Range.rangeSize a b c = n) (hl : n ≤ 2 ^ 24)
    (h : ∀ (h' : Heap) (tk : Nat) (acc : Array Value), s.heap.objs.size ≤ h'.objs.size → (∀ b o, s.heap.get? b = some o → h'.get? b = some o) → ItemsOf (fun i v => ∃ t, v = .int (a + i * c) t) acc n → R acc.toList { s with heap := h', toks := tk }) : wpAny (model prog w) A (collect (.ref r)) R E s := by
  have hS₁ : (s.heap.push { cls := .type "list", data := .seq ([] : List Value).toArray }).get? s.heap.objs.size = some { cls := .type "list", data := .seq #[] } := Heap.get?_push_size _ rfl
  unfold collect
  refine wpAny_bind (wpAny_runValue (codeAny_builtin entry_proto_collect' ?_))
  rw [Around.under_plainId PySem.F.plain_proto_collect _]
  refine wpAny_bind (m := newList []) (wpAny_newObj_type (wpAny_pure ⟨plainId_quiet PySem.F.plain_list_iadd _, codeAny_builtin entry_list_iadd' ?_⟩))
  rw [Around.under_plainId PySem.F.plain_list_iadd _]
  have key := wpAny_extend_range (prog := prog) (w := w) (A := A) (s := { s with heap := s.heap.push { cls := .type "list", data := .seq ([] : List Value).toArray } }) (R := fun (q : Result) (s' : Shared) => ∃ (h' : Heap) (tk : Nat) (acc : Array Value) (k : Nat), q = .ok (.ret (.ref s.heap.objs.size)) ∧ s' = { s with heap := h', toks := tk } ∧ (∀ b o, s.heap.get? b = some o → h'.get? b = some o) ∧ h'.get? s.heap.objs.size = some { cls := .type "list", dict := none, data := .seq acc k, slots := #[] } ∧ ItemsOf (fun i v => ∃ t, v = .int (a + i * c) t) acc n)
    hh (Heap.get?_push_of_some _ hr) hsm hn hl s.heap.objs.size (.ref s.heap.objs.size) 0 hS₁
    (fun h' tk acc c hk hS' hacc => ⟨h', tk, acc, c, rfl, rfl, fun b o e => hk b o (Nat.ne_of_lt (Heap.lt_size e)) (Heap.get?_push_of_some _ e), hS', hacc⟩)
  refine wpAny_mono key (fun fin s' z => ?_) fun e s' z => let ⟨_, _, _, _, e', _⟩ := z; (by cases e')
  cases fin with
  | done f =>
    obtain ⟨h', tk, acc, c, e, rfl, k, g, a⟩ := z
    cases e
    show wpAny _ A (load s.heap.objs.size >>= _) _ _ _
    exact wpAny_bind (wpAny_load g (wpAny_pure (h h' tk acc (Nat.le_of_lt (Heap.lt_size g)) k a)))
  | again c₁ =>
    refine ⟨z.1, codeAny_mono z.2 fun q s₂ y => ?_⟩
    obtain ⟨h', tk, acc, c, rfl, rfl, k, g, a⟩ := y
    show wpAny _ A (load s.heap.objs.size >>= _) _ _ _
    exact wpAny_bind (wpAny_load g (wpAny_pure (h h' tk acc (Nat.le_of_lt (Heap.lt_size g)) k a)))
theorem key_turn {Q : Value → Shared → Prop} {qual x y : Str} {params : Arguments} {p1 p2 p3 : Pos} {scope : Scope} {pm ctv : Value} {f c' cc ta : Addr} {its : Array Value} {i : Int} {t : Tok} {j : Nat} {u : Value} (hroom : A.depth < recursionLimit) (hlim : s.heap.NoLimit)
    (ho : s.heap.get? f = some (kla_obj "<lambda>" qual params (.Subscript (.Name x p1) (.Name y p2) p3) scope [(x, cc)] pm c' ctv)) (hcd : s.heap.CodeRec (.ref c') qual)
    (hcell : s.heap.IsCell cc (some (.ref ta))) (ht : IsTup s.heap ta its)
    (hk : scope.kind = .function) (hco : scope.isCoroutine = false) (hgen : scope.isGenerator = false) (hno : ∀ z ∈ scope.names, z.2 ≠ .cell) (hx : scope.names.lookup x = some .free) (hy : scope.names.lookup y = some .local)
    (hbind : ∀ v, bindArgs (kla_fn "<lambda>" qual params (.Subscript (.Name x p1) (.Name y p2) p3) scope [(x, cc)] pm (.ref c') ctv) ⟨[v], []⟩ = pure [(y, v)])
    (hxd : (x == ("__debug__" : Str)) = false) (hyd : (y == ("__debug__" : Str)) = false) (hxc : (x == ("__classdict__" : Str)) = false)
    (hlo : -(2 ^ 63) ≤ i) (hhi : i < 2 ^ 63) (hj : seqIndex? i its.size = some j) (hu : its[j]? = some u)
    (h : ∀ (h' : Heap) (tk : Nat), (∀ b o, s.heap.get? b = some o → h'.get? b = some o) → Q u { s with heap := h', toks := tk }) : wpAny (model prog w) A (call (.ref f) [.int i t]) Q E s := by
  refine wpAny_call (kla_callFunE hroom ho rfl hco hgen rfl hcd ?_)
  rw [hbind]
  refine wpAny_pure (wpAny_newFunctionEnv hno (fun z hz => ?_) (fun h₁ hns hsb => ⟨hlim.fresh _ hsb, kla_codeExpr ?_⟩) hk)
  · rw [List.mem_singleton.mp hz]; exact hy
  have kp : ∀ b o, s.heap.get? b = some o → h₁.get? b = some o := fun b o e => hsb.extBut b o (Nat.ne_of_lt (Heap.lt_size e)) (Heap.get?_push_of_some _ e)
  refine Subscript_ (wpAny_Name (wpAny_loadName_free hk hx (c := cc) (by show ([(x, cc)] : List (Str × Addr)).lookup x = some cc; simp) (hcell.keeps kp) ?_ hxc) hxd)
  refine wpAny_Name (wpAny_loadName_local hk hy hns (v := .int i t) (by simp) ?_) hyd
  have ht' : IsTup h₁ ta its := let ⟨o, e, r⟩ := ht; ⟨o, kp _ _ e, r⟩
  refine tail_any (T := "tuple") ht'.typeIs PySem.F.slot_tuple_getitem.lookup (getItem_tuple ht' hlo hhi hj hu (h h₁ _ kp)) rfl
end
end SK
namespace L3
open PySem PySem.Spec PyProof.Rows L2
noncomputable def plc (xs : List Int) : List Int := (List.range xs.length).map fun (k : Nat) => ((xs.idxOf (k : Int) : Nat) : Int)
noncomputable def IsOrd (xs : List Int) : Prop := xs.Perm ((List.range xs.length).map fun k => ((k : Nat) : Int))
theorem IsOrd.nodup {xs : List Int} (h : IsOrd xs) : xs.Nodup := by
  refine h.nodup_iff.mpr ?_
  unfold List.Nodup
  rw [List.pairwise_map]
  exact List.nodup_range.imp fun h z => h (by omega)
theorem idx_nd {xs : List Int} (nd : xs.Nodup) {i : Nat} {x : Int} (h : xs[i]? = some x) : xs.idxOf x = i := by
  obtain ⟨hi, rfl⟩ := List.getElem?_eq_some_iff.mp h
  exact nd.idxOf_getElem i hi
theorem plc_of {xs : List Int} {vs out : List Value} (hO : IsOrd xs) (hl : vs.length = xs.length) (hv : ∀ (i : Nat) (v : Value), vs[i]? = some v → ∃ t, v = .int i t) (ko : KskOut false xs vs out) : Vals ((plc xs).map V.int) out := by
  obtain ⟨ps, hp, rfl, hs⟩ := ko
  have hf : (ps.map Prod.fst).Perm xs := by
    have h1 := hp.map Prod.fst
    rwa [List.map_fst_zip (by omega)] at h1
  have e : ps.map Prod.fst = (List.range xs.length).map fun k => ((k : Nat) : Int) := by
    refine List.Perm.eq_of_pairwise (le := fun a b => a ≤ b) (fun _ _ _ _ h1 h2 => Int.le_antisymm h1 h2) ?_ ?_ (hf.trans hO)
    · rw [List.pairwise_map]
      exact hs.imp fun h => by simpa using h
    · rw [List.pairwise_map]
      exact List.pairwise_lt_range.imp fun h => by omega
  have hlen : ps.length = xs.length := by have := hf.length_eq; simpa using this
  refine vals_of (by simp [plc, hlen]) fun j x v e1 e2 => ?_
  rw [List.getElem?_map] at e1 e2
  cases q : ps[j]? with
  | none => rw [q] at e2; cases e2
  | some p =>
    rw [q] at e2
    cases e2
    have hj : j < xs.length := by rw [← hlen]; exact (List.getElem?_eq_some_iff.mp q).1
    have ep : p.1 = (j : Int) := by
      have := congrArg (·[j]?) e
      simp only [List.getElem?_map, q, List.getElem?_range hj, Option.map_some, Option.some.injEq] at this
      exact this
    have hm := hp.mem_iff.mp (List.mem_of_getElem? q)
    obtain ⟨i, hi⟩ := List.getElem?_of_mem hm
    rw [List.getElem?_zip_eq_some] at hi
    obtain ⟨t, ht⟩ := hv i _ hi.2
    have ex := idx_nd hO.nodup hi.1
    rw [ep] at ex
    unfold plc at e1
    rw [List.getElem?_map, List.getElem?_range hj] at e1
    simp only [Option.map_some, Option.some.injEq] at e1
    rw [← e1, ex]
    exact ⟨t, ht⟩
section
variable {X : Cx} {pins : List (Addr × Obj)} {σ : L2.St} {H : Hp} {s : Shared}
theorem Inv.laid' {L a : Addr} {o : HO} {m : Str → Option Value} {h' : Heap} {t' : Nat} (I : Inv X pins σ H s) (hL : L = X.env.locals) (k : ∀ b o, b ≠ L → s.heap.get? b = some o → h'.get? b = some o) (hm : s.heap.Ns L m) (hn : h'.Ns L m) (hp : s.heap.objs.size ≤ a)
    (new : ObjOk X.prog X.w (upd H a o) h' a o) : Inv X pins σ (upd H a o) { s with heap := h', toks := t' } := by
  subst hL
  have ha : H a = none := I.hok.fresh hp
  have up : ∀ b u, H b = some u → upd H a o b = some u := fun b u q => by rw [upd_ne (ne_of_none q ha)]; exact q
  refine I.step (g' := s.gens) (d' := s.drawn) (ch := []) (fun _ z => nomatch z) (fun b o hb _ _ e _ => k b o hb e) (fun b o hb _ _ e _ => ⟨o.slots, k b o hb e⟩) (fun b o _ e n => ?_) (fun b o _ e => ?_) (fun b xs e => up _ _ e) (fun b o u e => up _ _ e) (fun b ps e => ⟨#[], by rw [up _ _ e]; simp⟩) (fun m' hm' => ?_) (fun b u e => ?_) I.bare
  · rw [upd_ne (Nat.ne_of_lt (Nat.lt_of_lt_of_le (Heap.lt_size e) hp))]; exact n
  · by_cases hb : b = X.env.locals
    · obtain ⟨o', _, _, e', _⟩ := hn
      exact ⟨o', hb ▸ e'⟩
    · exact ⟨o, k b o hb e⟩
  · have : m' = m := hm'.eq_nsMap.trans hm.eq_nsMap.symm
    rw [this]; exact hn
  · by_cases hb : b = a
    · subst hb
      rw [upd_same] at e; cases e
      exact new
    · rw [upd_ne hb] at e
      refine (I.hok b u e).stay (fun c v hc q => k c v ?_ q) (fun _ q => up _ _ q) fun _ _ q => up _ _ q
      rintro rfl
      rcases hc with z | z
      · rw [← z, I.free] at e; cases e
      · rw [I.free] at z; cases z
theorem sk_call {Q : Value → Shared → Prop} {E : Value → Shared → Prop} {k : Nat} {r f c' cc ta : Addr} {xs : List Int} {qual x y : Str} {params : Arguments} {p1 p2 p3 : Pos} {scope : Scope} {pm ctv : Value}
    (hcalm : X.calm = true) (hr : Room k X.A) (I : Inv X pins σ H s) (hR : H r = some (.rng 0 xs.length)) (hO : IsOrd xs) (hz : xs.length < 64) (hT : H ta = some (.tup (xs.map V.int)))
    (ho : s.heap.get? f = some (PySem.W.kla_obj "<lambda>" qual params (.Subscript (.Name x p1) (.Name y p2) p3) scope [(x, cc)] pm c' ctv)) (hC : CodeF H qual c') (hcc : X.env.cells.lookup x = some cc) (hcell : s.heap.IsCell cc (some (.ref ta)))
    (hk : scope.kind = .function) (hco : scope.isCoroutine = false) (hgen : scope.isGenerator = false) (hno : ∀ z ∈ scope.names, z.2 ≠ .cell) (hx : scope.names.lookup x = some .free) (hy : scope.names.lookup y = some .local)
    (hbind : ∀ v, bindArgs (PySem.W.kla_fn "<lambda>" qual params (.Subscript (.Name x p1) (.Name y p2) p3) scope [(x, cc)] pm (.ref c') ctv) ⟨[v], []⟩ = pure [(y, v)])
    (hxd : (x == ("__debug__" : Str)) = false) (hyd : (y == ("__debug__" : Str)) = false) (hxc : (x == ("__classdict__" : Str)) = false)
    (h : ∀ l s', H l = none → Inv X pins σ (upd H l (.lst ((plc xs).map V.int))) s' → Q (.ref l) s') : wpAny (model X.prog X.w) X.A (call (.builtin "sorted") [.ref r] [(Str.ofString "key", .ref f)]) Q E s := by
  obtain ⟨t, u, v, er⟩ := I.hok r _ hR
  obtain ⟨m, F0⟩ := I.fr
  refine call_function_entry_kw kind_sorted plain_sorted entry_sorted (ksk_s1 _ _) ?_
  unfold Builtin.«sorted»
  refine wpAny_bind (m := checkCount "sorted" 1 1 _) (wpAny_pure ?_)
  have hn : Builtin.Range.rangeSize 0 (xs.length : Int) 1 = ((xs.length : Nat) : Int) := by rw [rangeSize_one]; split <;> omega
  refine wpAny_bind (SK.collectG (I.ok.hd hcalm) er (small_one (by omega) (by omega) (by omega) (by omega)) hn (by omega) fun h1 tk1 acc sz1 kp1 hacc => ?_)
  have hlen : acc.toList.length = xs.length := by rw [Array.length_toList]; exact hacc.1
  refine wpAny_bind (wpAny_newList ?_ (by rw [sizeLine_eq]; omega))
  have kp2 : ∀ b o, s.heap.get? b = some o → (h1.push (seqObj "list" acc.toList.toArray 0)).get? b = some o := fun b o e => Heap.get?_push_of_some _ (kp1 b o e)
  have I2 : Inv X pins σ H { s with heap := h1.push (seqObj "list" acc.toList.toArray 0), toks := tk1 } := I.kept kp2
  have hoL : (h1.push (seqObj "list" acc.toList.toArray 0)).get? h1.objs.size = some (seqObj "list" acc.toList.toArray 0) := Heap.get?_push_size _ rfl
  have F2 : Fr X.base X.env.locals (h1.push (seqObj "list" acc.toList.toArray 0)) m := F0.kept kp2
  have hLn : h1.objs.size ≠ X.env.locals := Nat.ne_of_gt (Nat.lt_of_lt_of_le I.lt sz1)
  have hB : X.base.get? h1.objs.size = none := Heap.get?_none_of_le (Nat.le_trans (Nat.le_trans I.ok.bsz I.sz) sz1)
  have NN := news_at hLn hB hoL
  have N2 : News X.base X.env.locals (h1.push (seqObj "list" acc.toList.toArray 0)) (rest X.base (h1.push (seqObj "list" acc.toList.toArray 0)) X.env.locals h1.objs.size) := fun p hp => NN p (List.mem_cons_of_mem _ hp)
  have back : ∀ {h' : Heap} {own : List (Addr × Obj)}, Fr X.base X.env.locals h' m → News X.base X.env.locals h' (rest X.base (h1.push (seqObj "list" acc.toList.toArray 0)) X.env.locals h1.objs.size ++ own) → ∀ b o, b ≠ X.env.locals → s.heap.get? b = some o → h'.get? b = some o := fun {h' own} F' N' b o hb e =>
    kept_of_news I2.bk F' (fun p hp => N' p (List.mem_append_left _ hp)) b o hb (Nat.ne_of_lt (Nat.lt_of_lt_of_le (Heap.lt_size e) sz1)) (kp2 b o e)
  refine wpAny_bind (wpAny_holding (wpAny_call_entry_kw slot_list_sort ⟨_, hoL, rfl⟩ entry_list_sort ?body (ksk_l1 _ _)))
  case body =>
    rw [ksk_t1]
    refine ksk_sort (s := { s with heap := h1.push (seqObj "list" acc.toList.toArray 0), toks := tk1 }) (kz := xs) (vs := acc.toList) F2 N2 hoL hLn hB (fun p hp => rest_ne p hp) hlen.symm (by omega) (fun i w' kk hw hkk h3 tk3 own F' N' => ?_) fun h' tk out c F' N' ko => ⟨_, rfl, wpAny_pure ⟨_, rfl, ?_⟩⟩
    · have B := back F' N'
      have hi : i < acc.size := by have := (List.getElem?_eq_some_iff.mp hw).1; simpa using this
      have hq := hacc.1
      obtain ⟨t1, ew⟩ := hacc.2 i w' (by rw [← hw, Array.getElem?_toList])
      subst ew
      obtain ⟨zz, its, rv, ht⟩ := I.hok ta _ hT
      obtain ⟨uu, hu, ru⟩ := rv.get (i := i) (x := V.int kk) (by rw [List.getElem?_map, hkk]; rfl)
      obtain ⟨t2, rfl⟩ := ru
      have e0 : ((0 : Int) + (i : Int) * 1) = (i : Int) := by omega
      rw [e0]
      have nL : ∀ {b : Addr} {u : HO}, H b = some u → b ≠ X.env.locals := fun {b u} e z => by rw [z, I.free] at e; cases e
      obtain ⟨oc, vs2, t3, e1, e2, e3⟩ := hC
      have hil : i < its.length := (List.getElem?_eq_some_iff.mp hu).1
      have ht1 := ht.tup
      refine SK.key_turn (s := { s with heap := h3, toks := tk3 }) (A := X.A.in1.in1) (j := i) (its := its.toArray) ?_ (I.mod.nolimit.keeps F'.keep) (B _ _ ?_ ho) ⟨c', oc, vs2, t3, rfl, B _ _ (nL e1) (I.hok c' _ e1).1, e2, e3⟩ ?_ (let ⟨o, e, r⟩ := ht1; ⟨o, B _ _ (nL hT) e, r⟩) hk hco hgen hno hx hy hbind hxd hyd hxc (by omega) (by omega) ?_ (by simpa using hu) fun h' tk kp => ⟨h', tk, t2, rfl, rfl, F'.kept kp, N'.grown kp⟩
      · exact hr.depth
      · intro z
        obtain ⟨o, _, _, eo, d, _⟩ := F0.ns
        rw [z] at ho
        rw [ho] at eo; cases eo; cases d
      · obtain ⟨o, eo, d⟩ := hcell
        exact ⟨o, B _ _ (I.cne x cc hcc) eo, d⟩
      · rw [List.size_toArray]
        unfold seqIndex?
        simp; omega
    · have hO2 := h h1.objs.size { s with heap := h', toks := tk } (I.hok.fresh sz1) ?_
      · exact hO2
      have B := back (own := []) F' (fun p hp => N' p (List.mem_cons_of_mem _ (by simpa using hp)))
      have ea := (N' (h1.objs.size, seqObj "list" out c) (.head _)).1
      have hv := plc_of (vs := acc.toList) hO hlen (fun i v e => by
        obtain ⟨t, z⟩ := hacc.2 i v (by rw [← e, Array.getElem?_toList])
        exact ⟨t, by rw [z]; congr 1; omega⟩) ko
      exact Inv.laid' I rfl B F0.ns F'.ns sz1 ⟨by rw [List.length_map]; simp only [plc, List.length_map, List.length_range]; rw [sizeLine_eq]; omega, out.toList, c, hv, by simpa [seqObj] using ea⟩
end
end L3
namespace L3
open PySem PySem.Spec PyProof.Rows L2
noncomputable def SkR (X : Cx) (c : Addr) (i : Nat) (qual : Str) (σ : L2.St) (Q : VK) (v : V) (H1 : Hp) : Prop := ∃ r P ps ta xs, v = .ref r ∧ H1 r = some (.rng 0 (xs.length : Nat)) ∧ PySem.W.codeHdIn X.K c P = true ∧ H1 P = some (.tbl ps) ∧ TabOk H1 qual ps ∧ σ[i]? = some (some (.ref ta)) ∧ H1 ta = some (.tup (xs.map V.int)) ∧ IsOrd xs ∧ xs.length < 64 ∧
        ∀ H2 c', Made H1 H2 qual P c' → ∀ l, H2 l = none → Q (.ref l) (upd H2 l (.lst ((plc xs).map V.int)))
section
variable {X : Cx}
theorem pe_sortKey {k i : Nat} {cc c : Addr} {x y qual : Str} {params : Arguments} {p1 p2 p3 lp kp p pos : Pos} {scope : Scope} {er : Expr} {tr : TE}
    (hcalm : X.calm = true) (hr : Room k X.A) (hg : Gl X "sorted") (hm : X.mg "sorted" = none) (her : PE X er tr) (hN : X.N[i]? = some x) (hkx : X.env.scope.names.lookup x = some .cell) (hcc : X.env.cells.lookup x = some cc) (hcl : closureFor scope X.env = pure [(x, cc)])
    (hcode : X.env.code = .ref c) (hq : X.env.qual ++ "<lambda>" = qual) (hdef : defaultsOf params X.env = ([], []))
    (hk : scope.kind = .function) (hco : scope.isCoroutine = false) (hgen : scope.isGenerator = false) (hno : ∀ z ∈ scope.names, z.2 ≠ .cell) (hx : scope.names.lookup x = some .free) (hy : scope.names.lookup y = some .local)
    (hbind : ∀ pm c' ctv v, bindArgs (PySem.W.kla_fn "<lambda>" qual params (.Subscript (.Name x p1) (.Name y p2) p3) scope [(x, cc)] pm c' ctv) ⟨[v], []⟩ = pure [(y, v)])
    (hxd : (x == ("__debug__" : Str)) = false) (hyd : (y == ("__debug__" : Str)) = false) (hxc : (x == ("__classdict__" : Str)) = false)
    (he : starEach [er] X.env = (false, eval er X.env) :: starEach [] X.env := by rfl) :
    PE X (.Call (.Name "sorted" p) [er] [⟨some "key", .Lambda params (.Subscript (.Name x p1) (.Name y p2) p3) scope lp, kp⟩] pos)
      (fun σ H Q => tr σ H (SkR X c i qual σ Q)) := by
  intro pins s σ H Q I h
  refine wpAny_Call_Name_kw (ld_blt I hg hm boot_sorted' ?_)
  refine callWith_kw (thn ((pa_cons her pa_nil he) pos pins s σ H (fun vs H1 => match vs with | [v] => SkR X c i qual σ Q v H1 | _ => False) I h) fun us s1 hus => ?_) (by rw [he]; rfl) (by rw [he]; rfl)
  · obtain ⟨vs, H1, I1, r1, hv⟩ := hus
    split at hv
    · obtain ⟨r, P, ps, ta, xs, rfl, e1, e2, e3, e4, e5, e6, e7, e8, q⟩ := hv
      obtain ⟨u, rfl, ru⟩ := vals1 r1
      cases ru
      refine kws_cons (lam_made I1 hcode e2 e3 e4 hq hdef hcl fun f c' pm ctv H2 s2 md I2 ho hf hsz => kws_nil ?_)
      have up : ∀ b u, H1 b = some u → b ≠ P → H2 b = some u := fun b u e hb => by
        obtain ⟨_, rfl | ⟨oc, ps', h1, h2, rfl, h3⟩⟩ := md
        · exact e
        · rw [upd_ne hb, upd_ne (ne_of_none e h1)]; exact e
      obtain ⟨m, hn, hl⟩ := I2.loc
      obtain ⟨w', rw', lk⟩ := hl i x _ hN e5 (.inr (.inl hkx))
      cases rw'
      have hcell : s2.heap.IsCell cc (some (.ref ta)) := by
        rcases lk with ⟨z, _⟩ | ⟨_, c2, z, q2⟩
        · have z' : X.env.scope.names.lookup x = some .local := z
          rw [hkx] at z'; cases z'
        · rw [hcc] at z; cases z; exact q2
      exact sk_call hcalm hr I2 (up _ _ e1 (ne_of e1 e3 (by intro z; cases z))) e7 e8 (up _ _ e6 (ne_of e6 e3 (by intro z; cases z))) ho md.1 hcc hcell hk hco hgen hno hx hy (hbind _ _ _) hxd hyd hxc fun l s3 hl3 I3 => ⟨.ref l, _, I3, rfl, q H2 c' md l hl3⟩
    · exact hv.elim
end
theorem rdI (ρ : List Addr) (H : Hp) : ∀ xs : List Int, RDs ρ H (xs.map D.int) (xs.map V.int)
  | [] => .nil
  | x :: xs => .cons (.int x) (rdI ρ H xs)
theorem rdI_inv {ρ : List Addr} {H : Hp} : ∀ {xs : List Int} {vs : List V}, RDs ρ H (xs.map D.int) vs → vs = xs.map V.int
  | [], _, .nil => rfl
  | x :: xs, _, .cons r q => by cases r; rw [rdI_inv q]; rfl
noncomputable def numD : D → Int
  | .int i => i
  | _ => 0
noncomputable def SkC (zs ds : List D) (x y : Str) : Prop := zs = [.int ds.length] ∧ y = x ∧ ds = (ds.map numD).map D.int ∧ IsOrd (ds.map numD) ∧ ds.length < 64
open Classical in
noncomputable def eSortK (n i : Nat) (x : Str) (mA : AM) : EM := fun l S => (mA l S).bind fun q => match l[i]?, q.2[n]? with
  | some (some (.tup ds)), some (.tab y) => if SkC q.1 ds x y then some (.ref q.2.length, q.2 ++ [.lst ((plc (ds.map numD)).map D.int)]) else none
  | _, _ => none
section
variable {X : Cx}
theorem p3_sortKey {k n i : Nat} {cc c P : Addr} {g x y : Str} {params : Arguments} {p0 p1 p2 p3 lp kp p pos pos' : Pos} {scope : Scope} {a : Expr} {mA : AM} (hT : PySem.W.tabIn X.K g = some (c, P))
    (hcalm : X.calm = true) (hr : Room k X.A) (hg : Gl X "sorted") (hm : X.mg "sorted" = none) (hgr : Gl X "range") (hmr : X.mg "range" = none) (ha : PA3 X [a] mA) (hN : X.N[i]? = some x) (hkx : X.env.scope.names.lookup x = some .cell) (hcc : X.env.cells.lookup x = some cc) (hcl : closureFor scope X.env = pure [(x, cc)])
    (hcode : X.env.code = .ref c) (hq : X.env.qual ++ "<lambda>" = lamQ g) (hdef : defaultsOf params X.env = ([], []))
    (hk : scope.kind = .function) (hco : scope.isCoroutine = false) (hgen : scope.isGenerator = false) (hno : ∀ z ∈ scope.names, z.2 ≠ .cell) (hx : scope.names.lookup x = some .free) (hy : scope.names.lookup y = some .local)
    (hbind : ∀ pm c' ctv v, bindArgs (PySem.W.kla_fn "<lambda>" (lamQ g) params (.Subscript (.Name x p1) (.Name y p2) p3) scope [(x, cc)] pm c' ctv) ⟨[v], []⟩ = pure [(y, v)])
    (hxd : (x == ("__debug__" : Str)) = false) (hyd : (y == ("__debug__" : Str)) = false) (hxc : (x == ("__classdict__" : Str)) = false)
    (he : starEach [.Call (.Name "range" p0) [a] [] pos'] X.env = (false, eval (.Call (.Name "range" p0) [a] [] pos') X.env) :: starEach [] X.env := by rfl)
    (he2 : starEach [a] X.env = (false, eval a X.env) :: starEach [] X.env := by rfl) :
    PE3 X (.Call (.Name "sorted" p) [.Call (.Name "range" p0) [a] [] pos'] [⟨some "key", .Lambda params (.Subscript (.Name x p1) (.Name y p2) p3) scope lp, kp⟩] pos) (eSortK n i g mA) :=
  PE.imp (pe_sortKey hcalm hr hg hm (pe_callTy call_rng1 hgr hmr boot_range3 ha (by decide) (by decide) he2 rfl) hN hkx hcc hcl hcode hq hdef hk hco hgen hno hx hy hbind hxd hyd hxc he) fun σ H Q hx1_ => by
    obtain ⟨ρ, l, S, v, S', sim, ro, hm, p⟩ := hx1_
    obtain ⟨⟨zs, S1⟩, q2, hm⟩ := bnd hm
    dsimp only at hm
    split at hm
    · rename_i ds gy el es
      obtain ⟨⟨rfl, rfl, hds, hO, hz⟩, e⟩ := @ite_some _ _ (Classical.propDecidable _) _ _ hm
      cases e
      refine ⟨ρ, l, S, _, S1, sim, ro, q2, fun ρ1 H1 vs e1 s1 r1 => ?_⟩
      obtain ⟨v, rfl, rv⟩ := r1.one
      cases rv
      refine ⟨_, rfl, fun r hr => ?_⟩
      have hl : n < ρ1.length := by rw [s1.len]; exact (List.getElem?_eq_some_iff.mp es).1
      have hn := List.getElem?_eq_getElem hl
      obtain ⟨c0, ps, t1, t2, hP, tok⟩ := s1.at' n _ _ hn es
      rw [hT] at t1
      cases t1
      obtain ⟨v, hv, rd⟩ := ro.get i _ el
      rw [hds] at rd
      cases rd with
      | @tup _ ta vs hH rs =>
        have evs := rdI_inv rs
        subst evs
        have hl2 : (ds.map numD).length = ds.length := List.length_map ..
        refine ⟨r, ρ1[n], ps, ta, ds.map numD, rfl, by rw [hl2]; exact upd_same, t2, by rw [upd_ne (ne_of_none hP hr)]; exact hP, tok.mono (ext_new (ρ := ρ1) hr).frz, hv, by rw [upd_ne (ne_of_none (e1.tup _ _ hH) hr)]; exact e1.tup _ _ hH, hO, by rw [hl2]; exact hz, fun H2 c' md l' hl' => ?_⟩
        have e2 := made_ext (ρ := ρ1) hn ⟨ps, by rw [upd_ne (ne_of_none hP hr)]; exact hP⟩ md
        exact new_lst ((s1.laid hr).made hn es md) (rdI ρ1 _ _) (p.ext ((e1.trans (ext_new hr)).trans e2)) l' hl'
    · cases hm
end
section
variable {P : Program} {w : World} {K : PySem.W.Frag} {mg : Str → Option Value} {base : Heap}
theorem fun3T {x qual : Str} {st : Stmt} {f c T : Addr} {fd : FuncData} {N ps : List Str} {k n : Nat} {b : SM} (F : Fun K x qual st f fd) (hf : PySem.W.nsIn K mainGlobals x = some (some (.ref f))) (hT : PySem.W.tabIn K x = some (c, T)) (S : FnScope N ps (defScope st)) (hn : ps.length = n)
    (hbody : PySem.W.codeIn K (.ref c) qual = true → ∀ (A : Around) (outer : List Env) (s : Shared) (H : Hp) (E : XK), Room k (A.deeper (envOfC qual (defScope st) s.heap.objs.size f (.ref c))) →
      PSs3 (cxOf CX0 P w K mg base N qual (defScope st) f (.ref c) A outer s H E).nox (defBody st) b) : FnOk P w K mg base CX0 (k + 1) f fd ps (sp3 K n (runB N.length b)) := by
  obtain ⟨oc, od, kV, doc, pm, an, cdv, ct, osl, rfl, lk, hcd⟩ := F.ex
  have ec : cdv = .ref c := by
    unfold PySem.W.tabIn at hT
    rw [hf] at hT
    dsimp only at hT
    rw [lk] at hT
    dsimp only [PySem.W.fnOf] at hT
    split at hT
    · split at hT
      · split at hT
        · cases hT; first | assumption | rfl
        · cases hT
      · cases hT
    · cases hT
  subst ec
  refine fn_of lk hcd S (fun vs H Q E h => by rw [h.1, hn]) fun A outer s H vs Q E hr h => ?_
  obtain ⟨hl, ρ, ds, S0, v, S', sim, rd, hm, p⟩ := h
  refine ⟨_, PSs.nox (hbody hcd A outer s H E hr), ?_⟩
  obtain ⟨⟨fl, l', S1⟩, q, hm⟩ := bnd hm
  refine ⟨ρ, _, S0, fl, l', S1, sim, rd.locals N, q, fun ρ' H' σ' e' s' r' => ?_⟩
  cases fl with
  | nx => cases hm; exact p ρ' H' _ e' s' .non
  | rt d => cases hm; exact fun v' rv => p ρ' H' v' e' s' rv
  | bk => cases hm
  | ct => cases hm
theorem has_ofT {x : Str} {st : Stmt} {f c T : Addr} {fd : FuncData} {N ps : List Str} {k n : Nat} {b : SM} (F : Fun K x x st f fd) (hm : mg x = some (.ref f)) (hf : Fnc K mg x) (hT : PySem.W.tabIn K x = some (c, T)) (S : FnScope N ps (defScope st)) (hn : ps.length = n) (hb : Binds K fd ps [])
    (hbody : PySem.W.codeIn K (.ref c) x = true → ∀ (A : Around) (outer : List Env) (s : Shared) (H : Hp) (E : XK), Room k (A.deeper (envOfC x (defScope st) s.heap.objs.size f (.ref c))) →
      PSs3 (cxOf CX0 P w K mg base N x (defScope st) f (.ref c) A outer s H E).nox (defBody st) b) : Has P w K mg base x (k + 1) n (runB N.length b) := by
  obtain ⟨f', o, h1, h2, h3⟩ := hf
  rw [hm] at h3
  cases h3
  exact ⟨f, fd, ps, fun3T F h1 hT S hn hbody, hm, F.kp, hb⟩
end
end L3
namespace L3
open PySem PySem.Spec PyProof.Rows L2
noncomputable def OnlyT (ts : List Addr) (H : Hp) : Prop := ∀ b, (b ∈ ts ∧ H b = some (.tbl #[])) ∨ (b ∉ ts ∧ (H b = none ∨ ∃ o xs, H b = some (.frz o (.lst xs))))
theorem law_callT {P : Program} {w : World} {K : PySem.W.Frag} {mg mb : Str → Option Value} {CX : CXT} {k : Nat} {fa a : Addr} {fd : FuncData} {x : Str} {sp : Sp} {s₁ : Shared} {vs : List Value} {ns : List Int} {ts : List Addr}
    (KX : K.In s₁.heap) (hbm : BMd mg s₁.heap) (hns : s₁.heap.Ns mainGlobals mg) (hb : s₁.heap.Ns builtinsNs mb) (hbb : ∀ x : Str, x ≠ "__name__" → mb x = bootBuiltins x) (hlim : s₁.heap.NoLimit) (hg : s₁.gens = #[])
    (ha : s₁.heap.get? a = some { cls := .type "list", data := .seq vs.toArray }) (hi : IntsAre vs ns) (hl : ns.length ≤ sizeLine) (hr : Room k callerA)
    (hT : ∀ t ∈ ts, s₁.heap.get? t = some (PySem.W.tabObj #[]) ∧ isCodeTable s₁.heap t ∧ K.lookup t = none)
    (F : ∀ base : Heap, K.In base → base.Ns mainGlobals mg → FnOk P w K mg base CX k fa fd [x] sp) (hbind : ∀ (s : Shared) (u : Value), BindsTo s fd ⟨[u], []⟩ [(x, u)])
    (hsp : ∀ H : Hp, OnlyT ts H → SqL K H a (ns.map V.int) → sp [.ref a] H (fun v _ => v = .bl true) fun _ _ _ => False)
    (hCX : ∀ H e s', CX [] H s₁ (fun _ _ _ => False) e s' → False) :
    codeAny (model P w) callerA (.call (.ref fa) ⟨[.ref a], []⟩) (fun r s' => r = .ok (.ret (.bool true)) ∧ OldK s₁.heap s'.heap ∧ s'.os = s₁.os ∧ AllBare s'.gens) s₁ := by
  have rv := vals_ints hi
  have lenV := hi.length
  have aT : a ∉ ts := fun z => by rw [(hT a z).1] at ha; cases ha
  have core : ∀ H : Hp, OnlyT ts H → SqL K H a (ns.map V.int) → HOk P w H s₁.heap → (∀ b, H b ≠ none → b = a ∨ b ∈ ts) → (H a ≠ none → K.lookup a = none) →
      codeAny (model P w) callerA (.call (.ref fa) ⟨[.ref a], []⟩) (fun r s' => r = .ok (.ret (.bool true)) ∧ OldK s₁.heap s'.heap ∧ s'.os = s₁.os ∧ AllBare s'.gens) s₁ := by
    intro H hO hS hok hA hK
    have no : ∀ {b : Addr} {o : Obj}, s₁.heap.get? b = some o → o.cls ≠ .type "list" → o ≠ PySem.W.tabObj #[] → H b = none := fun {b o} e n1 n2 => by
      cases q : H b with
      | none => rfl
      | some u =>
        rcases hA b (by rw [q]; simp) with z | z
        · subst z
          rw [ha] at e; cases e
          exact absurd rfl n1
        · rw [(hT b z).1] at e; cases e
          exact absurd rfl n2
    have nsK : ∀ {b : Addr} {m : Str → Option Value}, s₁.heap.Ns b m → (hidT s₁.heap H).Ns b m := fun {b m} hx1_ => by
      obtain ⟨o, es, ep, e, d, r⟩ := hx1_
      refine ⟨o, es, ep, hidT_get e ?_, d, r⟩
      cases q : H b with
      | none => rfl
      | some u =>
        rcases hA b (by rw [q]; simp) with z | z
        · subst z
          rw [ha] at e; cases e
          have d' : Data.seq vs.toArray _ = Data.dict es ep := d
          cases d'
        · rw [(hT b z).1] at e; cases e; cases d
    have hKb : K.In (hidT s₁.heap H) := fun b o e => hidT_get (KX b o e) (by
      cases q : H b with
      | none => rfl
      | some u =>
        rcases hA b (by rw [q]; simp) with z | z
        · subst z
          rw [hK (by rw [q]; simp)] at e; cases e
        · rw [(hT b z).2.2] at e; cases e)
    have hM : Mod K mg (hidT s₁.heap H) := ⟨hKb, nsK hns, ⟨mb, nsK hb, hbb⟩, let ⟨mc, h1, h2⟩ := hlim; ⟨mc, nsK h1, h2⟩, by
      obtain ⟨bm, ob, b1, b2, b3, b4, b5⟩ := hbm
      exact ⟨bm, ob, b1, b2, hidT_get b3 (no b3 (by rw [b4]; decide) (by rintro rfl; cases b4)), b4, b5⟩⟩
    have e0 : Env0 P w K mg (hidT s₁.heap H) callerA [] s₁ H := ⟨rfl, hM, fun b o e => of_hidT e, Nat.le_of_eq (hidT_size _ _), trivial, fun b hb => absurd (show b ∈ ([] : List Addr) from hb) (by simp), hok, .of_eq hg⟩
    refine codeAny_mono ((F _ hKb (nsK hns)).run callerA [] s₁ H ⟨[.ref a], []⟩ [.ref a] [.ref a] _ _ hr e0 (hbind s₁ (.ref a)) (.cons rfl .nil) (hsp H hO hS)) fun r s' h => ?_
    cases r with
    | error e => exact (hCX H e s' h).elim
    | ok fl =>
      cases fl with
      | next => exact False.elim h
      | brk => exact False.elim h
      | cont => exact False.elim h
      | ret u =>
        obtain ⟨v, H', os, bare, un, hok', r', q⟩ := h
        have q' : v = .bl true := q
        subst q'
        obtain rfl : u = Value.bool true := r'
        refine ⟨rfl, ⟨fun b o e => ?_, fun b o e => un.there b o e (by simp)⟩, os, bare⟩
        rcases hO b with ⟨hb, z⟩ | ⟨hb, z | ⟨ob, xs, z⟩⟩
        · obtain ⟨more, z2⟩ := un.tbls b _ z
          rw [(hT b hb).1] at e; cases e
          exact .inr (.inl ⟨(hT b hb).2.1, rfl, #[], more, rfl, hok' b _ z2⟩)
        · exact .inl (un.keep b o e z (by intro y; exact absurd (show b ∈ ([] : List Addr) from y) (by simp)) (by simp))
        · have z2 := un.frzs b ob _ z
          obtain ⟨e1, _⟩ := hok b _ z
          obtain ⟨e2, _⟩ := hok' b _ z2
          rw [e] at e1; cases e1
          exact .inl e2
  cases hk : K.lookup a with
  | some o =>
    have e := KX a o hk
    rw [ha] at e
    cases e
    refine core (fun b => if b ∈ ts then some (.tbl #[]) else none) (fun b => ?_) (.inr ⟨_, vs.toArray, _, hk, rfl, rfl, rfl, by rw [List.size_toArray, lenV]; exact hl, by simpa using rv⟩) (fun b u z => ?_) (fun b z => ?_) fun z => absurd (if_neg aT) z
    · by_cases h : b ∈ ts
      · exact .inl ⟨h, if_pos h⟩
      · exact .inr ⟨h, .inl (if_neg h)⟩
    · by_cases h : b ∈ ts
      · have z' := (if_pos h).symm.trans z
        cases z'
        exact (hT b h).1
      · have z' := (if_neg h).symm.trans z
        cases z'
    · by_cases h : b ∈ ts
      · exact .inr h
      · exact absurd (if_neg h) z
  | none =>
    refine core (fun b => if b ∈ ts then some (.tbl #[]) else if b = a then some (.frz { cls := .type "list", data := .seq vs.toArray } (.lst (ns.map V.int))) else none) (fun b => ?_) (.inl (.inr ⟨{ cls := .type "list", data := .seq vs.toArray }, (if_neg aT).trans (if_pos rfl)⟩)) (fun b u z => ?_) (fun b z => ?_) fun _ => hk
    · by_cases h : b ∈ ts
      · exact .inl ⟨h, if_pos h⟩
      · refine .inr ⟨h, ?_⟩
        by_cases hb : b = a
        · exact .inr ⟨_, _, (if_neg h).trans (if_pos hb)⟩
        · exact .inl ((if_neg h).trans (if_neg hb))
    · by_cases h : b ∈ ts
      · have z' := (if_pos h).symm.trans z
        cases z'
        exact (hT b h).1
      · have z' := (if_neg h).symm.trans z
        by_cases hb : b = a
        · have z2 := (if_pos hb).symm.trans z'
          cases z2
          subst hb
          exact ⟨ha, by rw [List.length_map]; exact hl, vs, _, rv, ha⟩
        · have z2 := (if_neg hb).symm.trans z'
          cases z2
    · by_cases h : b ∈ ts
      · exact .inr h
      · by_cases hb : b = a
        · exact .inl hb
        · exact absurd ((if_neg h).trans (if_neg hb)) z
theorem walk_ofT {l : PySem.W.OpenLaw} {n k : Nat} {q : Program} {loose : List Str} {XP : (Str → Option Value) → Heap → Prop} {YP : World → Heap → Prop} {d : DefRec} {K : Params → PySem.W.Frag} {CX : World → CXT} {sp : World → Sp} {x : Str} {ts : List Addr}
    (hn : l.most = some n) (hn2 : n ≤ sizeLine) (hdf : d.params.defaults = []) (hr : Room k callerA)
    (hY : ∀ (w : World) (h : Heap), YP w h → (K w.params).In h ∧ ∀ t ∈ ts, h.get? t = some (PySem.W.tabObj #[]))
    (hC : ∀ w : World, ∀ t ∈ ts, ∃ c, PySem.W.codeHdIn (K w.params) c t = true) (hN : ∀ w : World, PySem.W.noTabs (K w.params) = true)
    (F : ∀ (w : World) (mg : Str → Option Value) (fa : Addr) (h : Heap), (K w.params).In h → h.Ns mainGlobals mg → mg d.name = some (.ref fa) →
      ∃ fd : FuncData, (∀ (s : Shared) (u : Value), BindsTo s fd ⟨[u], []⟩ [(x, u)]) ∧
        ∀ base : Heap, (K w.params).In base → base.Ns mainGlobals mg → FnOk l.prog w (K w.params) mg base (CX w) k fa fd [x] (sp w))
    (hsp : ∀ (w : World) (H : Hp) (a : Addr) (ns : List Int), ns.length ≤ n → OnlyT ts H → SqL (K w.params) H a (ns.map V.int) → sp w [.ref a] H (fun v _ => v = .bl true) fun _ _ _ => False)
    (hCX : ∀ (w : World) (H : Hp) (s : Shared) (e : Value) (s' : Shared), CX w [] H s (fun _ _ _ => False) e s' → False) :
    PySem.W.WalkO q loose XP YP l.row.toRowW d [] (fun f vs => PySem.call f vs) := by
  refine Att.attach_call hn hdf fun w s₀ s₁ mg mb fa o pm cd doc a vs ns G Y ho hd hcd hmg hobj hints hlen hg => ?_
  obtain ⟨KX, hT⟩ := hY w _ Y
  obtain ⟨fd, hb, hF⟩ := F w mg fa _ KX G.T.g hmg
  refine law_callT KX G.T.bmain G.T.g G.T.b G.T.builtins G.T.nolimit hg hobj hints (Nat.le_trans hlen hn2) hr (fun t ht => ?_) hF hb (fun H hO hS => hsp w H a ns hlen hO hS) fun H e s' => hCX w H s₁ e s'
  obtain ⟨c, hc⟩ := hC w t ht
  refine ⟨hT t ht, ((PySem.W.codeHd_of_K KX hc).tab (hT t ht)).isCodeTable, ?_⟩
  cases e : (K w.params).lookup t with
  | none => rfl
  | some u =>
    have e1 := KX t u e
    rw [hT t ht] at e1
    cases e1
    have h2 := List.all_eq_true.mp (hN w) (t, _) (PySem.W.mem_of_lookupK e)
    exact absurd (show false = true from h2) Bool.false_ne_true
noncomputable def tabs0 (gs : List Str) : Sto := gs.map Ob.tab
theorem law_spT {K : PySem.W.Frag} {H : Hp} {a : Addr} {ns : List Int} {m : FM} {gs : List Str} {ts : List Addr} (hG : ts.Nodup) (hts : ∀ (i : Nat) g t, gs[i]? = some g → ts[i]? = some t → ∃ c, PySem.W.tabIn K g = some (c, t) ∧ PySem.W.codeHdIn K c t = true) (hlen : gs.length = ts.length)
    (hO : OnlyT ts H) (hS : SqL K H a (ns.map V.int)) (h : ∃ S', m [.ref 0] (.flst (ns.map D.int) :: tabs0 gs) = some (.bl true, S')) : sp3 K 1 m [.ref a] H (fun v _ => v = .bl true) fun _ _ _ => False := by
  obtain ⟨S', h⟩ := h
  refine ⟨rfl, a :: ts, [.ref 0], _, _, S', ⟨by simp [tabs0, hlen], fun i j b o1 o2 h1 h2 h3 h4 m1 m2 => ?_, fun n b o h1 h2 => ?_⟩, .cons (.ref rfl) .nil, h, fun ρ' H' v' e s r => ?_⟩
  · cases i with
    | zero => cases h3; cases m1
    | succ i =>
      cases j with
      | zero => cases h4; cases m2
      | succ j =>
        rw [List.getElem?_cons_succ] at h1 h2
        obtain ⟨l1, e1⟩ := List.getElem?_eq_some_iff.mp h1
        obtain ⟨l2, e2⟩ := List.getElem?_eq_some_iff.mp h2
        have := (List.getElem_inj hG).mp (e1.trans e2.symm)
        omega
  · cases n with
    | zero =>
      cases h1; cases h2
      refine ⟨_, ?_, rdI _ _ ns⟩
      rcases hS with (z | ⟨o, z⟩) | z
      · rcases hO a with ⟨_, y⟩ | ⟨_, y | ⟨o, xs, y⟩⟩ <;> (rw [z] at y; cases y)
      · exact .inl ⟨o, z⟩
      · exact .inr z
    | succ n =>
      rw [List.getElem?_cons_succ] at h1 h2
      unfold tabs0 at h2
      rw [List.getElem?_map] at h2
      cases q : gs[n]? with
      | none => rw [q] at h2; cases h2
      | some g =>
        rw [q] at h2
        cases h2
        obtain ⟨c, t1, t2⟩ := hts n g b q h1
        have hb : H b = some (.tbl #[]) := by
          rcases hO b with ⟨_, y⟩ | ⟨y, _⟩
          · exact y
          · exact absurd (List.mem_of_getElem? h1) y
        exact ⟨c, #[], t1, t2, hb, trivial, fun pos cv z => by simp [codeAmong] at z⟩
  · cases r; rfl
noncomputable def FT (K : PySem.W.Frag) (x : Str) (T : Addr) : Prop := ∃ c, PySem.W.tabIn K x = some (c, T) ∧ PySem.W.codeHdIn K c T = true
theorem ft_mk {K : PySem.W.Frag} {x : Str} {f c T : Addr} {oc o1 : Value} {od o2 : Option Addr} {sl o3 : Array (Option Value)} {fd : FuncData} {vs : Array Value} (a : PySem.W.nsIn K mainGlobals x = some (some (.ref f))) (l : K.lookup f = some ⟨oc, od, .func fd, sl⟩) (e : fd.code = .ref c)
    (k : K.lookup c = some ⟨o1, o2, .fields vs, o3⟩) (h : vs[11]? = some (.ref T)) (d : PySem.W.codeHdIn K c T = true) : FT K x T := by
  refine ⟨c, ?_, d⟩
  unfold PySem.W.tabIn
  rw [a]
  dsimp only
  rw [l]
  dsimp only
  rw [e]
  dsimp only
  rw [k]
  dsimp only
  rw [h]
end L3
namespace L3
open PySem
theorem ex_some {α : Type} {x : α} {p : α → Prop} : (∃ d, (some (some x) : Option (Option α)) = some (some d) ∧ p d) = p x := by
  apply propext; constructor
  · rintro ⟨d, h, q⟩; cases h; exact q
  · exact fun q => ⟨x, rfl, q⟩
theorem ex_some1 {α : Type} {x : α} {p : α → Prop} : (∃ d, (some x : Option α) = some d ∧ p d) = p x := by
  apply propext; constructor
  · rintro ⟨d, h, q⟩; cases h; exact q
  · exact fun q => ⟨x, rfl, q⟩
theorem ex_bl {b : Bool} {p : Bool → Prop} : (∃ k, D.bl b = D.bl k ∧ p k) = p b := by
  apply propext; constructor
  · rintro ⟨d, h, q⟩; cases h; exact q
  · exact fun q => ⟨b, rfl, q⟩
theorem ex_int {b : Int} {p : Int → Prop} : (∃ k, ([D.int b] : List D) = [D.int k] ∧ p k) = p b := by
  apply propext; constructor
  · rintro ⟨d, h, q⟩; cases h; exact q
  · exact fun q => ⟨b, rfl, q⟩
theorem at2_0 {α : Type} {x y : α} : L2.atI [x, y] 0 = some x := rfl
theorem at2_1 {α : Type} {x y : α} : L2.atI [x, y] 1 = some y := rfl
theorem at3_0 {α : Type} {x y z : α} : L2.atI [x, y, z] 0 = some x := rfl
theorem at3_1 {α : Type} {x y z : α} : L2.atI [x, y, z] 1 = some y := rfl
theorem at3_2 {α : Type} {x y z : α} : L2.atI [x, y, z] 2 = some z := rfl
theorem lstOf_last {S : Sto} {xs : List D} : lstOf (S ++ [.lst xs]) S.length = some xs := by unfold lstOf; rw [get_self]
theorem atI_in {α : Type} (xs : List α) (i : Int) (h0 : 0 ≤ i) (h1 : i < xs.length) : ∃ x, L2.atI xs i = some x ∧ x ∈ xs := by
  have hl : i.toNat < xs.length := by omega
  refine ⟨xs[i.toNat], ?_, List.getElem_mem hl⟩
  unfold L2.atI L2.ixN
  rw [if_pos h0, if_pos h1]
  simp [hl]
theorem atI_get {α : Type} {xs : List α} {i : Nat} {x : α} (h : xs[i]? = some x) : L2.atI xs (i : Int) = some x := by
  have hl := (List.getElem?_eq_some_iff.mp h).1
  unfold L2.atI L2.ixN
  rw [if_pos (by omega), if_pos (by omega)]
  simpa using h
section
variable {S : Sto} {Q : D → Sto → Prop} {l : Lo} {QG : Lo → Sto → Prop}
theorem wo_times {i j : Int} : Wo (dTimes (.int i) (.int j) S) Q = (((-(2 ^ 64) < i ∧ i < 2 ^ 64) ∨ (-(2 ^ 64) < j ∧ j < 2 ^ 64)) ∧ Q (.int (i * j)) S) := wo_ite
theorem wo_none : Wo none Q = False := by unfold Wo; simp
theorem wo_ixAT {xs : List D} {i : Int} : Wo (dIxA (.tup xs) (.int i) S) Q = ∃ v, L2.atI xs i = some v ∧ Q v S := by
  have e : dIxA (.tup xs) (.int i) S = dIx (.tup xs) (.int i) S := by
    unfold dIxA
    cases h : dIx (.tup xs) (.int i) S with
    | some v => rfl
    | none => rfl
  rw [e, wo_ixT]
theorem wo_ixAL {k : Nat} {i : Int} : Wo (dIxA (.ref k) (.int i) S) Q = ∃ xs, lstOf S k = some xs ∧ ∃ v, L2.atI xs i = some v ∧ Q v S := by
  have e : dIxA (.ref k) (.int i) S = dIx (.ref k) (.int i) S := by
    unfold dIxA
    cases h : dIx (.ref k) (.int i) S with
    | some v => rfl
    | none => rfl
  rw [e, wo_ixL]
theorem wo_ixAS {z : Str} {i : Int} : Wo (dIxA (.str z) (.int i) S) Q = (z.length ≤ sizeLine ∧ ∃ c, L2.atI z.cps.toList i = some c ∧ Q (.str ⟨#[c]⟩) S) := by
  show Wo (if z.length ≤ sizeLine then (L2.atI z.cps.toList i).bind fun c => some (.str ⟨#[c]⟩, S) else none) Q = _
  by_cases h : z.length ≤ sizeLine
  · rw [if_pos h, wo_bind]; simp only [wo_some, h, true_and]
  · rw [if_neg h, wo_none]; simp [h]
theorem wo_lenAL {k : Nat} : Wo (fLenA [.ref k] S) Q = ∃ xs, lstOf S k = some xs ∧ Q (.int xs.length) S := wo_lenL
theorem wo_lenAT {xs : List D} : Wo (fLenA [.tup xs] S) Q = Q (.int xs.length) S := wo_lenT
theorem wo_lenAS {z : Str} : Wo (fLenA [.str z] S) Q = (z.length ≤ sizeLine ∧ Q (.int z.length) S) := wo_ite
theorem wo_str {i : Int} : Wo (fStr [.int i] S) Q = (i.natAbs.log2 < 1920 ∧ Q (.str (toString i)) S) := wo_ite
theorem wo_eqSt {i j : Str} : Wo (dEq (.str i) (.str j) S) Q = Q (.bl (decide (i = j))) S := wo_some
theorem wo_neB {i j : Bool} : Wo (dNe (.bl i) (.bl j) S) Q = Q (.bl (!decide (i = j))) S := wo_some
theorem wo_neI {i j : Int} : Wo (dNe (.int i) (.int j) S) Q = Q (.bl (!decide (i = j))) S := wo_some
theorem wo_allL {n : Nat} : Wo (fAll [.ref n] S) Q = ∃ xs, lstOf S n = some xs ∧ xs.all isBlD = true ∧ Q (.bl (xs.all isT)) S := by
  show Wo ((lstOf S n).bind fun xs => if xs.all isBlD = true then some (.bl (xs.all isT), S) else none) Q = _
  rw [wo_bind]; simp only [wo_ite]
theorem we_methS {f : D → List D → Sto → Option (D × Sto)} {a : EM} {r : AM} : We (eMethS f a r) l S Q = We a l S fun x S1 => recvS x = some () ∧ Wa r l S1 fun ys S2 => Wo (f x ys S2) Q := by
  apply propext
  constructor
  · rintro ⟨v, S', h, q⟩
    obtain ⟨⟨x, S1⟩, h1, h⟩ := bnd h
    obtain ⟨_, h2, h⟩ := bnd h
    obtain ⟨⟨y, S2⟩, h3, h⟩ := bnd h
    exact ⟨x, S1, h1, h2, y, S2, h3, v, S', h, q⟩
  · rintro ⟨x, S1, h1, h2, y, S2, h3, v, S', h, q⟩
    refine ⟨v, S', ?_, q⟩
    unfold eMethS; rw [h1]; show (recvS x).bind _ = _; rw [h2]; show (r l S1).bind _ = _; rw [h3]; exact h
theorem wo_join {z : Str} {n : Nat} : Wo (mJoin (.str z) [.ref n] S) Q = ∃ xs, lstOf S n = some xs ∧ ∃ ts, strsD xs = some ts ∧ (ts.map (·.length)).sum + ts.length * z.length ≤ 16777216 ∧ Q (.str (Str.join z ts)) S := by
  show Wo ((lstOf S n).bind fun xs => (strsD xs).bind fun ts => if (ts.map (·.length)).sum + ts.length * z.length ≤ 16777216 then some (.str (Str.join z ts), S) else none) Q = _
  rw [wo_bind]; simp only [wo_bind, wo_ite]
theorem wg_dput {o i : EM} {v : D} : Wg (gDPut o i v l S) QG = We o l S fun x S1 => We i l S1 fun y S2 => ∃ S', putD x y v S2 = some S' ∧ QG l S' := by
  apply propext
  constructor
  · rintro ⟨l', S', h, q⟩
    obtain ⟨⟨x, S1⟩, h1, h⟩ := bnd h
    obtain ⟨⟨y, S2⟩, h2, h⟩ := bnd h
    obtain ⟨S3, h3, h⟩ := bnd h
    cases h
    exact ⟨x, S1, h1, y, S2, h2, _, h3, q⟩
  · rintro ⟨x, S1, h1, y, S2, h2, S3, h3, q⟩
    refine ⟨l, S3, ?_, q⟩
    unfold gDPut; rw [h1]; show (i l S1).bind _ = _; rw [h2]; show (putD x y v S2).bind _ = _; rw [h3]; rfl
theorem wo_isI_bl {U : String} {b : Bool} : Wo (fIsI U (.bl b) S) Q = Q (.bl (isI "bool" U)) S := wo_some
theorem wo_isI_int {U : String} {b : Int} : Wo (fIsI U (.int b) S) Q = Q (.bl (isI "int" U)) S := wo_some
theorem wo_isI_str {U : String} {b : Str} : Wo (fIsI U (.str b) S) Q = Q (.bl (isI "str" U)) S := wo_some
theorem wo_isI_tup {U : String} {b : List D} : Wo (fIsI U (.tup b) S) Q = Q (.bl (isI "tuple" U)) S := wo_some
theorem wo_isI_non {U : String} : Wo (fIsI U .non S) Q = Q (.bl (isI "NoneType" U)) S := wo_some
theorem isI_same {U : String} : isI U U = true := by unfold isI; simp
end
noncomputable def Gr (S0 S : Sto) : Prop := ∃ ex, S = S0 ++ ex
theorem Gr.refl (S : Sto) : Gr S S := ⟨[], by rw [List.append_nil]⟩
theorem Gr.trans {A B C : Sto} (h : Gr A B) (g : Gr B C) : Gr A C := by obtain ⟨x, rfl⟩ := h; obtain ⟨y, rfl⟩ := g; exact ⟨x ++ y, by rw [List.append_assoc]⟩
theorem Gr.push {A B : Sto} (h : Gr A B) (o : Ob) : Gr A (B ++ [o]) := h.trans ⟨[o], rfl⟩
theorem Gr.get {A B : Sto} {n : Nat} {o : Ob} (h : Gr A B) (e : A[n]? = some o) : B[n]? = some o := by
  obtain ⟨x, rfl⟩ := h
  rw [List.getElem?_append_left (List.getElem?_eq_some_iff.mp e).1]; exact e
theorem Gr.lst {A B : Sto} {n : Nat} {xs : List D} (h : Gr A B) (e : lstOf A n = some xs) : lstOf B n = some xs := by
  unfold lstOf at e ⊢
  cases q : A[n]? with
  | none => rw [q] at e; cases e
  | some o => rw [h.get q]; rw [q] at e; exact e
section
variable {it : ItM} {im : IM} {ixs : List (Option Nat)} {g : GM} {t : TM} {e : EM} {l : Lo} {S S1 : Sto} {Q : D → Sto → Prop} {k : Nat}
theorem compG_inv (xs : List D) (R : Nat → List D → Lo → Sto → Prop) (hit : ∀ i acc l S, R i acc l S → it i S = some xs[i]?)
    (step : ∀ (i : Nat) x acc l S, xs[i]? = some x → R i acc l S → Wg (g x l S) fun l1 S1 => Wt t l1 S1 fun b S2 => if b = true then We e l1 S2 fun v S3 => R (i + 1) (acc ++ [v]) l1 S3 else R (i + 1) acc l1 S2) :
    ∀ (n i : Nat) (acc : List D) (l : Lo) (S : Sto), n + i = xs.length → R i acc l S → ∃ rest S' l', compG it g t e (n + 1) i l S = some (rest, S') ∧ R xs.length (acc ++ rest) l' S'
  | 0, i, acc, l, S, hn, h => by
    have hi : i = xs.length := by omega
    have e0 := hit i acc l S h
    rw [List.getElem?_eq_none_iff.mpr (by omega)] at e0
    refine ⟨[], S, l, ?_, by rw [List.append_nil, ← hi]; exact h⟩
    unfold compG; rw [e0]; rfl
  | n + 1, i, acc, l, S, hn, h => by
    have hi : i < xs.length := by omega
    have e0 := hit i acc l S h
    rw [List.getElem?_eq_getElem hi] at e0
    obtain ⟨l1, S1, e1, b, S2, e2, q⟩ := step i _ acc l S (List.getElem?_eq_getElem hi) h
    cases b with
    | true =>
      obtain ⟨v, S3, e3, q⟩ := q
      obtain ⟨rest, S', l', e4, q⟩ := compG_inv xs R hit step n (i + 1) (acc ++ [v]) l1 S3 (by omega) q
      refine ⟨v :: rest, S', l', ?_, by rw [List.append_assoc] at q; exact q⟩
      unfold compG; rw [e0]; show (g _ l S).bind _ = _; rw [e1]; show (t l1 S1).bind _ = _; rw [e2]
      show (e l1 S2).bind _ = _; rw [e3]; show (compG it g t e (n + 1) (i + 1) l1 S3).bind _ = _; rw [e4]; rfl
    | false =>
      obtain ⟨rest, S', l', e4, q⟩ := compG_inv xs R hit step n (i + 1) acc l1 S2 (by omega) q
      refine ⟨rest, S', l', ?_, q⟩
      unfold compG; rw [e0]; show (g _ l S).bind _ = _; rw [e1]; show (t l1 S1).bind _ = _; rw [e2]
      exact e4
theorem we_comp (xs : List D) (R : Nat → List D → Lo → Sto → Prop) (him : im l S = some (it, xs.length + 1, S1)) (h0 : R 0 [] (srcL ixs l) S1) (hit : ∀ i acc l S, R i acc l S → it i S = some xs[i]?)
    (step : ∀ (i : Nat) x acc l S, xs[i]? = some x → R i acc l S → Wg (g x l S) fun l1 S1 => Wt t l1 S1 fun b S2 => if b = true then We e l1 S2 fun v S3 => R (i + 1) (acc ++ [v]) l1 S3 else R (i + 1) acc l1 S2)
    (fin : ∀ acc l' S', R xs.length acc l' S' → acc.length ≤ sizeLine ∧ Q (.ref S'.length) (S' ++ [.lst acc])) : We (eComp im ixs g t e) l S Q := by
  obtain ⟨rest, S', l', h1, h2⟩ := compG_inv (it := it) (g := g) (t := t) (e := e) xs R hit step xs.length 0 [] (srcL ixs l) S1 rfl h0
  obtain ⟨hz, q⟩ := fin rest l' S' h2
  refine ⟨_, _, ?_, q⟩
  unfold eComp; rw [him]; show (compG it g t e (xs.length + 1) 0 (srcL ixs l) S1).bind _ = _; rw [h1]; show (if _ then _ else _) = _; rw [if_pos hz]
theorem we_compM (xs : List D) (F : D → D) (P : Sto → Prop) (L : Lo → Prop) (him : im l S = some (it, xs.length + 1, S1)) (h0 : P S1) (l0 : L (srcL ixs l)) (hit : ∀ i S, P S → it i S = some xs[i]?) (hz : xs.length ≤ sizeLine)
    (step : ∀ x l S, x ∈ xs → L l → P S → Wg (g x l S) fun l1 S2 => P S2 ∧ L l1 ∧ We e l1 S2 fun v S3 => v = F x ∧ P S3)
    (fin : ∀ S', P S' → Q (.ref S'.length) (S' ++ [.lst (xs.map F)])) : We (eComp im ixs g tTrue e) l S Q := by
  refine we_comp xs (fun i acc l S => acc = (xs.take i).map F ∧ L l ∧ P S) him ⟨rfl, l0, h0⟩ (fun i acc l S h => hit i S h.2.2) ?_ ?_
  · rintro i x acc l S hx ⟨rfl, hl, hp⟩
    obtain ⟨l1, S2, e1, p1, q1, v, S3, e2, rfl, p3⟩ := step x l S (List.mem_of_getElem? hx) hl hp
    refine ⟨l1, S2, e1, ?_⟩
    dsimp only
    rw [wt_true, if_pos rfl]
    refine ⟨_, S3, e2, ?_, q1, p3⟩
    rw [List.take_add_one, hx]; simp
  · rintro acc l' S' ⟨rfl, hl, hp⟩
    rw [List.take_length]
    exact ⟨by rw [List.length_map]; exact hz, fin S' hp⟩
theorem we_compV (xs : List D) (V : D → Prop) (P : Nat → Sto → Prop) (L : Lo → Prop) (him : im l S = some (it, xs.length + 1, S1)) (h0 : P 0 S1) (l0 : L (srcL ixs l)) (hit : ∀ i S, P i S → it i S = some xs[i]?) (hz : xs.length ≤ sizeLine)
    (step : ∀ (i : Nat) x l S, xs[i]? = some x → L l → P i S → Wg (g x l S) fun l1 S2 => L l1 ∧ We e l1 S2 fun v S3 => V v ∧ P (i + 1) S3)
    (fin : ∀ vs S', vs.length = xs.length → (∀ v ∈ vs, V v) → P xs.length S' → Q (.ref S'.length) (S' ++ [.lst vs])) : We (eComp im ixs g tTrue e) l S Q := by
  refine we_comp xs (fun i acc l S => acc.length = i ∧ (∀ v ∈ acc, V v) ∧ L l ∧ P i S) him ⟨rfl, (fun v hv => by cases hv), l0, h0⟩ (fun i acc l S h => hit i S h.2.2.2) ?_ ?_
  · rintro i x acc l S hx ⟨hl, hv, hL, hp⟩
    obtain ⟨l1, S2, e1, q1, v, S3, e2, hv2, p3⟩ := step i x l S hx hL hp
    refine ⟨l1, S2, e1, ?_⟩
    dsimp only
    rw [wt_true, if_pos rfl]
    refine ⟨v, S3, e2, by simp [hl], fun u hu => ?_, q1, p3⟩
    rcases List.mem_append.mp hu with hu | hu
    · exact hv u hu
    · rw [List.mem_singleton.mp hu]; exact hv2
  · rintro acc l' S' ⟨hl, hv, hL, hp⟩
    exact ⟨by rw [hl]; exact hz, fin acc S' hl hv hp⟩
end
theorem rng_ok {as : AM} {l : Lo} {S S1 : Sto} {j : Int} (h : as l S = some ([.int j], S1)) (hz : -(2 ^ 62) ≤ j ∧ j < 2 ^ 62) : rng1 as l S = some ((0, j.toNat), S1) := by
  unfold rng1; rw [h]; simp only [Option.bind_some]; rw [if_pos hz]
theorem rng_im {as : AM} {l : Lo} {S S1 : Sto} {n : Nat} (h : as l S = some ([.int (n : Int)], S1)) (hn : n < 1000000000) : iRng (rng1 as) l S = some (itX (rngD 0 n), (rngD 0 n).length + 1, S1) := by
  have := rng_ok h ⟨by omega, by omega⟩
  unfold iRng; rw [this]; simp only [Option.bind_some, Int.toNat_natCast, rngD_len]
theorem valT_im {e : EM} {l : Lo} {S S1 : Sto} {xs : List D} (h : e l S = some (.tup xs, S1)) : iVal e l S = some (itX xs, xs.length + 1, S1) := by
  unfold iVal; rw [h]; rfl
theorem valL_im {e : EM} {l : Lo} {S S1 : Sto} {n : Nat} {xs : List D} (h : e l S = some (.ref n, S1)) (hn : lstOf S1 n = some xs) : iVal e l S = some (itL n, xs.length + 1, S1) := by
  unfold iVal; rw [h]; show (lstOf S1 n).bind _ = _; rw [hn]; rfl
theorem itL_at {n i : Nat} {S : Sto} {xs : List D} (hn : lstOf S n = some xs) : itL n i S = some xs[i]? := by unfold itL; rw [hn]; rfl
section
variable {g : GM} {b : SM}
theorem forX_out (P : Nat → Lo → Sto → Prop) (O : D → Sto → Prop) : ∀ (xs : List D) (k : Nat) (l : Lo) (S : Sto), P k l S →
    (∀ (i : Nat) x l S, xs[i]? = some x → P (k + i) l S → Wg (g x l S) fun l1 S1 => Ws b l1 S1 fun f l2 S2 => ((f = .nx ∨ f = .ct) ∧ P (k + i + 1) l2 S2) ∨ ∃ d, f = .rt d ∧ O d S2) →
    Wr (forX g b xs l S) fun f l' S' => (f = .nx ∧ P (k + xs.length) l' S') ∨ ∃ d, f = .rt d ∧ O d S'
  | [], k, l, S, h0, _ => ⟨_, _, _, rfl, .inl ⟨rfl, h0⟩⟩
  | x :: xs, k, l, S, h0, hs => by
    obtain ⟨l1, S1, e1, f, l2, S2, e2, q⟩ := hs 0 x l S rfl h0
    rcases q with ⟨hf, h1⟩ | ⟨d, rfl, hd⟩
    · have ih := forX_out P O xs (k + 1) l2 S2 h1 fun i y l S hy hp => by
        have := hs (i + 1) y l S (by simpa using hy) (by rw [show k + (i + 1) = k + 1 + i by omega]; exact hp)
        rw [show k + (i + 1) + 1 = k + 1 + i + 1 by omega] at this
        exact this
      obtain ⟨f', l', S', e3, q1⟩ := ih
      refine ⟨f', l', S', ?_, by rw [List.length_cons, show k + (xs.length + 1) = k + 1 + xs.length by omega]; exact q1⟩
      unfold forX
      rw [e1]; show (b l1 S1).bind _ = _; rw [e2]
      rcases hf with rfl | rfl <;> exact e3
    · refine ⟨_, l2, S2, ?_, .inr ⟨d, rfl, hd⟩⟩
      unfold forX
      rw [e1]; show (b l1 S1).bind _ = _; rw [e2]; rfl
theorem ws_rng (P : Nat → Lo → Sto → Prop) (O : D → Sto → Prop) {as : AM} {l : Lo} {S S1 : Sto} {n : Nat} {QS : Fl → Lo → Sto → Prop} (h : as l S = some ([.int (n : Int)], S1)) (hn : n < 1000000000) (h0 : P 0 l S1)
    (step : ∀ (i : Nat) l S, i < n → P i l S → Wg (g (.int i) l S) fun l1 S1 => Ws b l1 S1 fun f l2 S2 => ((f = .nx ∨ f = .ct) ∧ P (i + 1) l2 S2) ∨ ∃ d, f = .rt d ∧ O d S2)
    (fin : ∀ l' S', P n l' S' → QS .nx l' S') (out : ∀ d l' S', O d S' → QS (.rt d) l' S') : Ws (sForR (rng1 as) g b) l S QS := by
  rw [ws_forR]
  refine ⟨_, _, h, (n : Int), rfl, ⟨by omega, by omega⟩, ?_⟩
  rw [Int.toNat_natCast]
  refine (forX_out P O (rngD 0 n) 0 l S1 h0 ?_).mono ?_
  · intro i x l S hx hp
    obtain ⟨hi, rfl⟩ := rngD_get hx
    rw [Nat.zero_add] at hp
    have := step i l S hi hp
    rw [Int.zero_add, Nat.zero_add]
    exact this
  · rintro f l' S' (⟨rfl, hp⟩ | ⟨d, rfl, hd⟩)
    · rw [rngD_len, Nat.zero_add] at hp; exact fin l' S' hp
    · exact out d l' S' hd
end
end L3
namespace L3
open PySem
section
variable {S : Sto} {Q : D → Sto → Prop} {l : Lo}
theorem wo_plusAI {i j : Int} : Wo (dPlusA (.int i) (.int j) S) Q = Q (.int (i + j)) S := wo_some
theorem wo_plusAT {xs ys : List D} : Wo (dPlusA (.tup xs) (.tup ys) S) Q = (xs.length + ys.length ≤ sizeLine ∧ Q (.tup (xs ++ ys)) S) := wo_ite
theorem wo_plusAL {n m : Nat} {xs ys : List D} (h1 : S[n]? = some (.lst xs)) (h2 : S[m]? = some (.lst ys)) : Wo (dPlusA (.ref n) (.ref m) S) Q = (xs.length + ys.length ≤ sizeLine ∧ Q (.ref S.length) (S ++ [.lst (xs ++ ys)])) := by
  show Wo (match S[n]?, S[m]? with | some (.lst xs), some (.lst ys) => if xs.length + ys.length ≤ sizeLine then some (.ref S.length, S ++ [.lst (xs ++ ys)]) else none | _, _ => none) Q = _
  rw [h1, h2]; exact wo_ite
theorem wo_intAB {k : Bool} : Wo (fIntA [.bl k] S) Q = Q (.int (if k then 1 else 0)) S := wo_some
noncomputable def Wp (o : OM) (l : Lo) (S : Sto) (Q : Option Int → Sto → Prop) : Prop := ∃ v S', o l S = some (v, S') ∧ Q v S'
theorem wp_none {Q : Option Int → Sto → Prop} : Wp oNone l S Q = Q none S := by
  apply propext
  exact ⟨fun hx1_ => by obtain ⟨v, S', h, q⟩ := hx1_; cases h; exact q, fun q => ⟨_, _, rfl, q⟩⟩
theorem wp_some {e : EM} {Q : Option Int → Sto → Prop} : Wp (oSome e) l S Q = We e l S fun x S1 => ∃ i, x = .int i ∧ Q (some i) S1 := by
  apply propext
  constructor
  · rintro ⟨v, S', h, q⟩
    obtain ⟨⟨x, S1⟩, h1, h⟩ := bnd h
    refine ⟨x, S1, h1, ?_⟩
    cases x with
    | int i => cases h; exact ⟨i, rfl, q⟩
    | _ => cases h
  · rintro ⟨x, S1, h1, i, rfl, q⟩
    exact ⟨_, S1, by unfold oSome; rw [h1]; rfl, q⟩
theorem ex_int1 {b : Int} {p : Int → Prop} : (∃ k, D.int b = D.int k ∧ p k) = p b := by
  apply propext; constructor
  · rintro ⟨d, h, q⟩; cases h; exact q
  · exact fun q => ⟨b, rfl, q⟩
noncomputable def slA (x : D) (a b : Option Int) (S : Sto) : Option (D × Sto) := match x with
  | .tup xs => some (.tup (cutD xs a b), S)
  | .ref n => (lstOf S n).bind fun xs => some (.ref S.length, S ++ [.lst (cutD xs a b)])
  | .str z => if z.length ≤ sizeLine then some (.str (Txt.slice z a b), S) else none
  | _ => none
theorem we_slA {m : EM} {lo hi : OM} : We (eSlA m lo hi) l S Q = We m l S fun x S1 => Wp lo l S1 fun a S2 => Wp hi l S2 fun b S3 => Wo (slA x a b S3) Q := by
  apply propext
  constructor
  · rintro ⟨v, S', h, q⟩
    obtain ⟨⟨x, S1⟩, h1, h⟩ := bnd h
    obtain ⟨⟨a, S2⟩, h2, h⟩ := bnd h
    obtain ⟨⟨b, S3⟩, h3, h⟩ := bnd h
    exact ⟨x, S1, h1, a, S2, h2, b, S3, h3, v, S', h, q⟩
  · rintro ⟨x, S1, h1, a, S2, h2, b, S3, h3, v, S', h, q⟩
    refine ⟨v, S', ?_, q⟩
    unfold eSlA; rw [h1]; show (lo l S1).bind _ = _; rw [h2]; show (hi l S2).bind _ = _; rw [h3]; exact h
theorem wo_slT {xs : List D} {a b : Option Int} : Wo (slA (.tup xs) a b S) Q = Q (.tup (cutD xs a b)) S := wo_some
theorem wo_slL {n : Nat} {xs : List D} {a b : Option Int} (h : lstOf S n = some xs) : Wo (slA (.ref n) a b S) Q = Q (.ref S.length) (S ++ [.lst (cutD xs a b)]) := by
  show Wo ((lstOf S n).bind fun xs => some (.ref S.length, S ++ [.lst (cutD xs a b)])) Q = _
  rw [h]; exact wo_some
theorem cutD_to (xs : List D) (k : Nat) : cutD xs none (some (k : Int)) = xs.take k := by
  unfold cutD; rw [HT.sIx_none, HT.sIx_nat, List.drop_zero, Nat.sub_zero]
  by_cases h : k ≤ xs.length
  · rw [Nat.min_eq_left h]
  · rw [Nat.min_eq_right (by omega), List.take_length, List.take_of_length_le (by omega)]
theorem cutD_from (xs : List D) (k : Nat) : cutD xs (some (k : Int)) none = xs.drop k := by
  unfold cutD; rw [HT.sIx_none, HT.sIx_nat]
  by_cases h : k ≤ xs.length
  · rw [Nat.min_eq_left h, List.take_of_length_le (by rw [List.length_drop]; exact Nat.le_refl _)]
  · rw [Nat.min_eq_right (by omega), Nat.sub_self, List.take_zero, List.drop_eq_nil_of_le (by omega)]
end
section
variable {it : ItM} {im : IM} {g : GM} {b : SM}
theorem ws_forT' {e : EM} (xs : List D) (P : Nat → Lo → Sto → Prop) (O : D → Sto → Prop) {l : Lo} {S S1 : Sto} {QS : Fl → Lo → Sto → Prop} (he : e l S = some (.tup xs, S1)) (h0 : P 0 l S1)
    (step : ∀ (i : Nat) x l S, xs[i]? = some x → P i l S → Wg (g x l S) fun l1 S1 => Ws b l1 S1 fun f l2 S2 => ((f = .nx ∨ f = .ct) ∧ P (i + 1) l2 S2) ∨ ∃ d, f = .rt d ∧ O d S2)
    (fin : ∀ l' S', P xs.length l' S' → QS .nx l' S') (out : ∀ d l' S', O d S' → QS (.rt d) l' S') : Ws (sFor e g b) l S QS := by
  rw [ws_forT]
  refine ⟨_, _, he, ?_⟩
  refine (forX_out P O xs 0 l S1 h0 ?_).mono ?_
  · intro i x l S hx hp
    rw [Nat.zero_add] at hp ⊢
    exact step i x l S hx hp
  · rintro f l' S' (⟨rfl, hp⟩ | ⟨d, rfl, hd⟩)
    · rw [Nat.zero_add] at hp; exact fin l' S' hp
    · exact out d l' S' hd
theorem forL_out {n : Nat} (xs : List D) (P : Nat → Lo → Sto → Prop) (O : D → Sto → Prop) (hit : ∀ i l S, P i l S → lstOf S n = some xs)
    (step : ∀ (i : Nat) x l S, xs[i]? = some x → P i l S → Wg (g x l S) fun l1 S1 => Ws b l1 S1 fun f l2 S2 => ((f = .nx ∨ f = .ct) ∧ P (i + 1) l2 S2) ∨ ∃ d, f = .rt d ∧ O d S2) :
    ∀ (k i : Nat) (l : Lo) (S : Sto), k + i = xs.length → P i l S → Wr (forL g b n (k + 1) i l S) fun f l' S' => (f = .nx ∧ P xs.length l' S') ∨ ∃ d, f = .rt d ∧ O d S'
  | 0, i, l, S, hn, h => by
    have hi : i = xs.length := by omega
    refine ⟨.nx, l, S, ?_, .inl ⟨rfl, by rw [← hi]; exact h⟩⟩
    unfold forL; rw [hit i l S h]; simp only [Option.bind_some]; rw [List.getElem?_eq_none_iff.mpr (by omega)]
  | k + 1, i, l, S, hn, h => by
    have hi : i < xs.length := by omega
    obtain ⟨l1, S1, e1, f, l2, S2, e2, q⟩ := step i _ l S (List.getElem?_eq_getElem hi) h
    rcases q with ⟨hf, h1⟩ | ⟨d, rfl, hd⟩
    · obtain ⟨f', l', S', e3, q1⟩ := forL_out xs P O hit step k (i + 1) l2 S2 (by omega) h1
      refine ⟨f', l', S', ?_, q1⟩
      unfold forL; rw [hit i l S h]; simp only [Option.bind_some]; rw [List.getElem?_eq_getElem hi]; show (g _ l S).bind _ = _; rw [e1]; show (b l1 S1).bind _ = _; rw [e2]
      rcases hf with rfl | rfl <;> exact e3
    · refine ⟨_, l2, S2, ?_, .inr ⟨d, rfl, hd⟩⟩
      unfold forL; rw [hit i l S h]; simp only [Option.bind_some]; rw [List.getElem?_eq_getElem hi]; show (g _ l S).bind _ = _; rw [e1]; show (b l1 S1).bind _ = _; rw [e2]; rfl
theorem ws_forLst {e : EM} {n : Nat} (xs : List D) (P : Nat → Lo → Sto → Prop) (O : D → Sto → Prop) {l : Lo} {S S1 : Sto} {QS : Fl → Lo → Sto → Prop} (he : e l S = some (.ref n, S1)) (h0 : P 0 l S1) (hit : ∀ i l S, P i l S → lstOf S n = some xs)
    (step : ∀ (i : Nat) x l S, xs[i]? = some x → P i l S → Wg (g x l S) fun l1 S1 => Ws b l1 S1 fun f l2 S2 => ((f = .nx ∨ f = .ct) ∧ P (i + 1) l2 S2) ∨ ∃ d, f = .rt d ∧ O d S2)
    (fin : ∀ l' S', P xs.length l' S' → QS .nx l' S') (out : ∀ d l' S', O d S' → QS (.rt d) l' S') : Ws (sFor e g b) l S QS := by
  rw [ws_forT]
  refine ⟨_, _, he, ?_⟩
  simp only
  rw [hit 0 l S1 h0]; simp only [Option.bind_some]
  refine (forL_out xs P O hit step xs.length 0 l S1 rfl h0).mono ?_
  rintro f l' S' (⟨rfl, hp⟩ | ⟨d, rfl, hd⟩)
  · exact fin l' S' hp
  · exact out d l' S' hd
end
end L3
namespace L3
open PySem
theorem sum_le (B : Nat) : ∀ ts : List Str, (∀ t ∈ ts, t.length ≤ B) → (ts.map (·.length)).sum ≤ B * ts.length
  | [], _ => Nat.zero_le _
  | t :: ts, h => by
    have h1 := h t List.mem_cons_self
    have h2 := sum_le B ts fun x hx => h x (List.mem_cons_of_mem _ hx)
    simp only [List.map_cons, List.sum_cons, List.length_cons]
    rw [Nat.mul_add]; omega
theorem shownAll_map (xs : List PyData) : PyData.shownAll xs = xs.map PyData.shown := by
  induction xs with
  | nil => rfl
  | cons x xs ih => unfold PyData.shownAll; rw [ih]; rfl
theorem lst_len (B : Nat) (xs : List PyData) (h : ∀ x ∈ xs, x.shown.length ≤ B) : (PyData.list xs).shown.length ≤ B * xs.length + 2 * xs.length + 3 := by
  show (listText (PyData.shownAll xs)).length ≤ _
  rw [shownAll_map]
  have h1 := listText_len_le (xs.map PyData.shown)
  have h2 := sum_le B (xs.map PyData.shown) fun t ht => by
    obtain ⟨p, hp, rfl⟩ := List.mem_map.mp ht
    exact h p hp
  simp only [List.length_map] at h1 h2
  omega
theorem tup_len (B : Nat) (xs : List PyData) (h : ∀ x ∈ xs, x.shown.length ≤ B) : (PyData.tuple xs).shown.length ≤ B * xs.length + 2 * xs.length + 3 := by
  show (tupleText (PyData.shownAll xs)).length ≤ _
  rw [shownAll_map]
  have h1 := tupleText_len_le (xs.map PyData.shown)
  have h2 := sum_le B (xs.map PyData.shown) fun t ht => by
    obtain ⟨p, hp, rfl⟩ := List.mem_map.mp ht
    exact h p hp
  simp only [List.length_map] at h1 h2
  omega
noncomputable def Sh (S : Sto) (k B : Nat) (d : D) : Prop := ∃ p : PyData, p.shown.length ≤ B ∧ ∀ S', Gr S S' → pyOf S' k d = some p
theorem Sh.le {S : Sto} {k B B' : Nat} {d : D} (h : Sh S k B d) (hb : B ≤ B') : Sh S k B' d := let ⟨p, h1, h2⟩ := h; ⟨p, Nat.le_trans h1 hb, h2⟩
theorem sh_all {S : Sto} {k B : Nat} : ∀ (xs : List D), (∀ x ∈ xs, Sh S k B x) → ∃ ps : List PyData, ps.length = xs.length ∧ (∀ p ∈ ps, p.shown.length ≤ B) ∧ ∀ S', Gr S S' → pyAll S' k xs = some ps
  | [], _ => ⟨[], rfl, (fun p hp => by cases hp), fun ex _ => by unfold pyAll; rfl⟩
  | x :: xs, h => by
    obtain ⟨p, h1, h2⟩ := h x List.mem_cons_self
    obtain ⟨ps, h3, h4, h5⟩ := sh_all xs fun y hy => h y (List.mem_cons_of_mem _ hy)
    refine ⟨p :: ps, by simp [h3], fun q hq => ?_, fun ex g => ?_⟩
    · rcases List.mem_cons.mp hq with rfl | hq
      · exact h1
      · exact h4 q hq
    · unfold pyAll; rw [h2 ex g, h5 ex g]; rfl
theorem sh_tup {S : Sto} {k B n : Nat} {xs : List D} (h : ∀ x ∈ xs, Sh S k B x) (hn : xs.length ≤ n) : Sh S (k + 1) (B * n + 2 * n + 3) (.tup xs) := by
  obtain ⟨ps, h1, h2, h3⟩ := sh_all xs h
  refine ⟨.tuple ps, ?_, fun ex g => ?_⟩
  · have := tup_len B ps h2
    rw [h1] at this
    have h4 : B * xs.length ≤ B * n := Nat.mul_le_mul_left _ hn
    omega
  · unfold pyOf; rw [h3 ex g]; rfl
theorem sh_lst {S : Sto} {k B n j : Nat} {xs : List D} (hj : lstOf S j = some xs) (h : ∀ x ∈ xs, Sh S k B x) (hn : xs.length ≤ n) : Sh S (k + 1) (B * n + 2 * n + 3) (.ref j) := by
  obtain ⟨ps, h1, h2, h3⟩ := sh_all xs h
  refine ⟨.list ps, ?_, fun ex g => ?_⟩
  · have := lst_len B ps h2
    rw [h1] at this
    have h4 : B * xs.length ≤ B * n := Nat.mul_le_mul_left _ hn
    omega
  · unfold pyOf; rw [g.lst hj]; show (pyAll ex k xs).bind _ = _; rw [h3 ex g]; rfl
theorem small_log2 {n : Nat} (h : n < 1000000) : ((n : Nat) : Int).natAbs.log2 < 1920 := by
  by_cases hz : n = 0
  · subst hz; decide
  · have h1 : ((n : Nat) : Int).natAbs = n := by omega
    rw [h1]
    have h2 : n.log2 < 20 := (Nat.log2_lt hz).mpr (Nat.lt_of_lt_of_le h (by decide))
    omega
theorem sh_nat {S : Sto} {k n : Nat} (h : n < 1000000) : Sh S (k + 1) 10 (.int n) := by
  refine ⟨.int n, ?_, fun ex _ => by unfold pyOf; rw [if_pos (small_log2 h)]⟩
  show (PySem.Str.ofString (toString (n : Int))).length ≤ 10
  exact PySem.W.KT.len_num (by omega) (by omega)
theorem sh_non {S : Sto} {k : Nat} : Sh S (k + 1) 10 .non := ⟨.none, by decide +kernel, fun ex _ => by unfold pyOf; rfl⟩
theorem sh_str {S : Sto} {k B : Nat} {z : Str} (h : z.length ≤ B) (hc : ∀ c ∈ z.cps.toList, c < 128) : Sh S (k + 1) (10 * B + 2) (.str z) := by
  refine ⟨.str z, ?_, fun ex _ => by unfold pyOf; rfl⟩
  have := StrLaws.reprText_len z fun c hc' => Nat.lt_of_lt_of_le (hc c hc') (by decide)
  show (PyData.str z).shown.length ≤ _; unfold PyData.shown
  omega
end L3
namespace L3
open PySem
section
variable {l : Lo} {S : Sto} {Q : D → Sto → Prop} {QG : Lo → Sto → Prop} {a b c : EM}
end
theorem whl_out {c : TM} {b : SM} (I : Nat → Lo → Sto → Prop) (O : D → Sto → Prop) (Q : Lo → Sto → Prop)
    (step : ∀ m l S, I m l S → Wt c l S fun k S1 => if k = true then Ws b l S1 fun f l2 S2 => ((f = .nx ∨ f = .ct) ∧ ∃ m', m' < m ∧ I m' l2 S2) ∨ ∃ d, f = .rt d ∧ O d S2 else Q l S1) :
    ∀ (fuel m : Nat), m < fuel → ∀ l S, I m l S → Wr (whl c b fuel l S) fun f l' S' => (f = .nx ∧ Q l' S') ∨ ∃ d, f = .rt d ∧ O d S'
  | 0, m, h, _, _, _ => absurd h (Nat.not_lt_zero _)
  | fuel + 1, m, h, l, S, hi => by
    obtain ⟨k, S1, e1, h1⟩ := step m l S hi
    cases k with
    | false => exact ⟨.nx, l, S1, by unfold whl; rw [e1]; rfl, .inl ⟨rfl, h1⟩⟩
    | true =>
      have h1 : Ws b l S1 fun f l2 S2 => ((f = .nx ∨ f = .ct) ∧ ∃ m', m' < m ∧ I m' l2 S2) ∨ ∃ d, f = .rt d ∧ O d S2 := h1
      obtain ⟨f, l2, S2, e2, q⟩ := h1
      rcases q with ⟨hf, m', hm, hi2⟩ | ⟨d, rfl, hd⟩
      · obtain ⟨f', l', S', e3, q⟩ := whl_out I O Q step fuel m' (by omega) l2 S2 hi2
        refine ⟨f', l', S', ?_, q⟩
        unfold whl; rw [e1]; show (b l S1).bind _ = _; rw [e2]
        rcases hf with rfl | rfl <;> exact e3
      · refine ⟨_, l2, S2, ?_, .inr ⟨d, rfl, hd⟩⟩
        unfold whl; rw [e1]; show (b l S1).bind _ = _; rw [e2]; rfl
theorem ws_whl {c : TM} {b : SM} (I : Nat → Lo → Sto → Prop) (O : D → Sto → Prop) (Q : Lo → Sto → Prop) {l : Lo} {S : Sto} {QS : Fl → Lo → Sto → Prop} (m : Nat) (hm : m < 1000000) (h0 : I m l S)
    (step : ∀ m l S, I m l S → Wt c l S fun k S1 => if k = true then Ws b l S1 fun f l2 S2 => ((f = .nx ∨ f = .ct) ∧ ∃ m', m' < m ∧ I m' l2 S2) ∨ ∃ d, f = .rt d ∧ O d S2 else Q l S1)
    (fin : ∀ l' S', Q l' S' → QS .nx l' S') (out : ∀ d l' S', O d S' → QS (.rt d) l' S') : Ws (whl c b FUEL) l S QS := by
  refine Wr.mono (whl_out I O Q step FUEL m hm l S h0) ?_
  rintro f l' S' (⟨rfl, h⟩ | ⟨d, rfl, h⟩)
  · exact fin l' S' h
  · exact out d l' S' h
theorem ws_det {m n : SM} {l l' : Lo} {S S' : Sto} {QS : Fl → Lo → Sto → Prop} (h1 : Ws m l S fun f l1 S1 => f = .nx ∧ l1 = l' ∧ S1 = S') (h2 : Ws n l' S' QS) : Ws (sSeq m n) l S QS := by
  rw [ws_seq]
  obtain ⟨f, l1, S1, e, rfl, rfl, rfl⟩ := h1
  exact ⟨_, _, _, e, h2⟩
theorem Gr.len {A B : Sto} (h : Gr A B) : A.length ≤ B.length := by obtain ⟨x, rfl⟩ := h; rw [List.length_append]; omega
theorem Gr.set {A B : Sto} {r : Nat} (h : Gr A B) (hr : A.length ≤ r) (o : Ob) : Gr A (B.set r o) := by
  obtain ⟨x, rfl⟩ := h
  exact ⟨x.set (r - A.length) o, by rw [List.set_append_right _ _ hr]⟩
theorem lstOf_of {S : Sto} {n : Nat} {xs : List D} (h : S[n]? = some (.lst xs)) : lstOf S n = some xs := by unfold lstOf; rw [h]
theorem get_set {S : Sto} {n : Nat} {o o' : Ob} (h : S[n]? = some o) : (S.set n o')[n]? = some o' := List.getElem?_set_self (List.getElem?_eq_some_iff.mp h).1
theorem recvL_of {S : Sto} {n : Nat} {xs : List D} (h : S[n]? = some (.lst xs)) : recvL (.ref n) S = some xs := lstOf_of h
end L3
section
namespace G
open PySem PySem.Spec PyProof.Rows L2 L3
noncomputable abbrev bd : List Stmt := PySem.Challenge.pw_opencells_k59_orders_and_names.main.body
noncomputable def b_is_below : SM := sRet (eAnd3 (eUn (fIsI "int") (eVar 0)) (eAnd3 (eNot3 (eUn (fIsI "bool") (eVar 0))) (eChain dLe dLt (eC (.int 0)) (eVar 0) (eVar 1))))
noncomputable def m_is_below : FM := runB 2 b_is_below
noncomputable def b_are_unlike_below : SM := sSeq (sIf (tOr3 (tNot3 (tE (eUn (fIsI "tuple") (eVar 0)))) (tE (eOp dNe (eCall fLenA (aCons (eVar 0) (aNil))) (eVar 1)))) (sRet (eC (.bl false))) (sNext)) (sRet (eAnd3 (eCall fAll (aCons (eComp (iVal (eVar 0)) [none, some 2] (gName3 0) (tTrue) (eCall m_is_below (aCons (eVar 0) (aCons (eVar 1) (aNil))))) (aNil))) (eOp dEq (eCall fLenI (aCons (eCall fSetI (aCons (eVar 0) (aNil))) aNil)) (eVar 1))))
noncomputable def m_are_unlike_below : FM := runB 3 b_are_unlike_below
noncomputable def b_is_order : SM := sRet (eCall m_are_unlike_below (aCons (eVar 0) (aCons (eVar 1) (aCons (eVar 1) (aNil)))))
noncomputable def m_is_order : FM := runB 2 b_is_order
noncomputable def b_law_draw : SM := sSeq (sAsg (eOp dPlusA (eOp dIxA (eVar 0) (eC (.int 2))) (eC (.int 1))) (gSub3 (eVar 0) (eC (.int 2)))) (sSeq (sIf (tE (eOp dGt (eOp dIxA (eVar 0) (eC (.int 0))) (eC (.int 0)))) (sSeq (sAsg (eOp dMod (eOp dIxA (eVar 0) (eC (.int 0))) (eVar 1)) (gName3 2)) (sSeq (sAsg (eOp dDiv (eOp dIxA (eVar 0) (eC (.int 0))) (eVar 1)) (gSub3 (eVar 0) (eC (.int 0)))) (sRet (eVar 2)))) (sNext)) (sSeq (sAsg (eOp dMod (eOp dTimes (eOp dPlusA (eOp dIxA (eVar 0) (eC (.int 1))) (eC (.int 29))) (eOp dPlusA (eOp dTimes (eC (.int 40503)) (eOp dIxA (eVar 0) (eC (.int 2)))) (eC (.int 7919)))) (eC (.int 2147483629))) (gName3 3)) (sSeq (sAsg (eOp dMod (eOp dPlusA (eOp dPow (eVar 3) (eC (.int 3))) (eOp dTimes (eC (.int 69621)) (eOp dIxA (eVar 0) (eC (.int 2))))) (eC (.int 2147483587))) (gName3 3)) (sSeq (sAsg (eOp dMod (eOp dPow (eVar 3) (eC (.int 5))) (eOp dIxA (eCall fLst (aCons (eC (.int 2147483647)) (aCons (eC (.int 2147483563)) (aCons (eC (.int 2147483549)) (aNil))))) (eOp dMod (eOp dIxA (eVar 0) (eC (.int 2))) (eC (.int 3))))) (gName3 3)) (sRet (eOp dMod (eOp dDiv (eVar 3) (eC (.int 64))) (eVar 1)))))))
noncomputable def m_law_draw : FM := runB 4 b_law_draw
noncomputable def b_law_no_orders : SM := sSeq (sAsg (eCall m_law_draw (aCons (eVar 0) (aCons (eCall fLenA (aCons (eVar 1) (aNil))) (aNil)))) (gName3 2)) (sSeq (sAsg (eCall fLst (aCons (eCall fLenA (aCons (eVar 1) (aNil))) (aCons (eUn dNeg (eC (.int 1))) (aCons (eC (.bl true)) (aCons (eC (.bl false)) (aCons (eCall fStr (aCons (eOp dIxA (eVar 1) (eVar 2)) (aNil))) (aCons (eC .non) (aCons (eCall fTup (aCons (eOp dIxA (eVar 1) (eVar 2)) (aNil))) (aCons (eCall fLst (aCons (eOp dIxA (eVar 1) (eVar 2)) (aNil))) (aCons (eDict0) (aCons (eOp dPow (eC (.int 10)) (eC (.int 30))) (aNil)))))))))))) (gName3 3)) (sSeq (sAsg (eComp (iVal (eVar 3)) [none, some 1, some 2] (gName3 0) (tE (eOp dNe (eCall fReprD (aCons (eVar 0) (aNil))) (eCall fReprD (aCons (eOp dIxA (eVar 1) (eVar 2)) (aNil))))) (eOp dPlusA (eOp dPlusA (eSlA (eVar 1) (oNone) (oSome (eVar 2))) (eCall fTup (aCons (eVar 0) (aNil)))) (eSlA (eVar 1) (oSome (eOp dPlusA (eVar 2) (eC (.int 1)))) (oNone)))) (gName3 4)) (sSeq (sIf (tE (eOp dGt (eCall fLenA (aCons (eVar 1) (aNil))) (eC (.int 1)))) (sDrop (eMethL mAppend (eVar 4) (aCons (eOp dPlusA (eOp dPlusA (eSlA (eVar 1) (oNone) (oSome (eVar 2))) (eCall fTup (aCons (eOp dIxA (eVar 1) (eOp dSub (eVar 2) (eC (.int 1)))) (aNil)))) (eSlA (eVar 1) (oSome (eOp dPlusA (eVar 2) (eC (.int 1)))) (oNone))) aNil))) (sNext)) (sSeq (sAsg (eOp dPlusA (eVar 4) (eCall fLst (aCons (eOp dPlusA (eVar 1) (eCall fTup (aCons (eCall fLenA (aCons (eVar 1) (aNil))) (aNil)))) (aCons (eOp dPlusA (eSlA (eVar 1) (oNone) (oSome (eVar 2))) (eSlA (eVar 1) (oSome (eOp dPlusA (eVar 2) (eC (.int 1)))) (oNone))) (aCons (eOp dPlusA (eOp dPlusA (eSlA (eVar 1) (oNone) (oSome (eVar 2))) (eCall fTup (aCons (eOp dIxA (eVar 1) (eVar 2)) (aNil)))) (eSlA (eVar 1) (oSome (eVar 2)) (oNone))) (aNil)))))) (gName3 4)) (sSeq (sAsg (eOp dPlusA (eVar 4) (eCall fLst (aCons (eCall fList (aCons (eVar 1) (aNil))) (aCons (eC .non) (aCons (eCall fLenA (aCons (eVar 1) (aNil))) (aCons (eMethS mJoin (eC (.str "")) (aCons (eComp (iVal (eVar 1)) [none] (gName3 0) (tTrue) (eCall fStr (aCons (eVar 0) (aNil)))) aNil)) (aNil))))))) (gName3 4)) (sRet (eOp dPlusA (eVar 4) (eCall fLst (aCons (eDict0) (aCons (eC (.bl true)) (aCons (eCall fTup (aCons (eVar 1) (aNil))) (aCons (eOp dPlusA (eVar 1) (eCall fTup (aCons (eCall fTup (aNil)) (aNil)))) (aNil)))))))))))))
noncomputable def m_law_no_orders : FM := runB 5 b_law_no_orders
noncomputable def b_places : SM := sRet (eSortK 1 0 "places" (aCons (eCall fLenA (aCons (eVar 0) (aNil))) (aNil)))
noncomputable def m_places : FM := runB 1 b_places
noncomputable def b_name_of : SM := sRet (eIf3 (tE (eOp dIs (eVar 1) (eC .non))) (eC .non) (eOp dIxA (eVar 0) (eVar 1)))
noncomputable def m_name_of : FM := runB 2 b_name_of
noncomputable def b_renamed : SM := sSeq (sAsg (eOp dIxA (eVar 0) (eC (.int 1))) (gName3 4)) (sSeq (sAsg (eComp (iVal (eCall m_places (aCons (eVar 1) (aNil)))) [none, some 2, some 1, some 4, some 3] (gName3 0) (tTrue) (eComp (iVal (eCall m_places (aCons (eVar 1) (aNil)))) [none, some 2, some 3, some 0, some 4] (gName3 0) (tTrue) (eCall fTup (aCons (eCall m_name_of (aCons (eVar 1) (aCons (eOp dIxA (eOp dIxA (eOp dIxA (eVar 2) (eVar 3)) (eVar 0)) (eC (.int 0))) (aNil)))) (aCons (eCall m_name_of (aCons (eVar 4) (aCons (eOp dIxA (eOp dIxA (eOp dIxA (eVar 2) (eVar 3)) (eVar 0)) (eC (.int 1))) (aNil)))) (aNil)))))) (gName3 5)) (sRet (eCall fTup (aCons (eOp dIxA (eVar 0) (eC (.int 0))) (aCons (eCall fTuple (aCons (eComp (iVal (eVar 5)) [none] (gName3 0) (tTrue) (eCall fTuple (aCons (eVar 0) (aNil)))) (aNil))) (aNil))))))
noncomputable def m_renamed : FM := runB 6 b_renamed
noncomputable def b_law_undone : SM := sRet (eCall fTuple (aCons (eComp (iRng (rng1 (aCons (eCall fLenA (aCons (eVar 0) (aNil))) (aNil)))) [none, some 0] (gName3 0) (tTrue) (eMethU mIndexT (eVar 1) (aCons (eVar 0) aNil))) (aNil)))
noncomputable def m_law_undone : FM := runB 1 b_law_undone
noncomputable def b_law_name : SM := sSeq (sIf (tE (eOp dIs (eVar 1) (eC .non))) (sRet (eC .non)) (sNext)) (sRet (eOp dIxA (eVar 0) (eVar 1)))
noncomputable def m_law_name : FM := runB 2 b_law_name
noncomputable def b_law_right : SM := sSeq (sIf (tOr3 (tNot3 (tE (eUn (fIsI "tuple") (eVar 1)))) (tOr3 (tE (eOp dNe (eCall fLenA (aCons (eVar 1) (aNil))) (eC (.int 2)))) (tOr3 (tE (eOp dNe (eOp dIxA (eVar 1) (eC (.int 0))) (eOp dIxA (eVar 0) (eC (.int 0))))) (tNot3 (tE (eUn (fIsI "tuple") (eOp dIxA (eVar 1) (eC (.int 1))))))))) (sRet (eC (.bl false))) (sNext)) (sSeq (sIf (tOr3 (tE (eOp dNe (eCall fLenA (aCons (eOp dIxA (eVar 1) (eC (.int 1))) (aNil))) (eCall fLenA (aCons (eOp dIxA (eVar 0) (eC (.int 1))) (aNil))))) (tE (eUn (fIsI "bool") (eOp dIxA (eVar 1) (eC (.int 0)))))) (sRet (eC (.bl false))) (sNext)) (sSeq (sForR (rng1 (aCons (eCall fLenA (aCons (eOp dIxA (eVar 0) (eC (.int 1))) (aNil))) (aNil))) (gName3 5) (sSeq (sAsg (eOp dIxA (eOp dIxA (eVar 1) (eC (.int 1))) (eOp dIxA (eVar 2) (eVar 5))) (gName3 6)) (sSeq (sIf (tOr3 (tNot3 (tE (eUn (fIsI "tuple") (eVar 6)))) (tE (eOp dNe (eCall fLenA (aCons (eVar 6) (aNil))) (eOp dIxA (eVar 0) (eC (.int 0)))))) (sRet (eC (.bl false))) (sNext)) (sForR (rng1 (aCons (eOp dIxA (eVar 0) (eC (.int 0))) (aNil))) (gName3 7) (sSeq (sAsg (eOp dIxA (eOp dIxA (eOp dIxA (eVar 0) (eC (.int 1))) (eVar 5)) (eVar 7)) (gTup3 2 (gCons3 (gName3 8) (gCons3 (gName3 9) (gNil3))))) (sIf (tE (eOp dNe (eCall fReprD (aCons (eOp dIxA (eVar 6) (eOp dIxA (eVar 3) (eVar 7))) (aNil))) (eCall fReprD (aCons (eCall fTup (aCons (eCall m_law_name (aCons (eVar 2) (aCons (eVar 8) (aNil)))) (aCons (eCall m_law_name (aCons (eVar 4) (aCons (eVar 9) (aNil)))) (aNil)))) (aNil))))) (sRet (eC (.bl false))) (sNext))))))) (sRet (eC (.bl true)))))
noncomputable def m_law_right : FM := runB 10 b_law_right
noncomputable def b_law_order : SM := sSeq (sAsg (eCall m_law_draw (aCons (eVar 0) (aCons (eC (.int 3)) (aNil)))) (gName3 3)) (sSeq (sAsg (eListR (rng1 (aCons (eVar 1) (aNil)))) (gName3 4)) (sSeq (sIf (tAnd3 (tE (eOp dEq (eVar 3) (eC (.int 0)))) (tE (eOp dGt (eVar 1) (eVar 2)))) (sSeq (sAsg (eOp dPlusA (eVar 2) (eCall m_law_draw (aCons (eVar 0) (aCons (eOp dSub (eVar 1) (eVar 2)) (aNil))))) (gName3 5)) (sSeq (sAsg (eOp dPlusA (eVar 2) (eCall m_law_draw (aCons (eVar 0) (aCons (eOp dSub (eVar 1) (eVar 2)) (aNil))))) (gName3 6)) (sAsg (eCall fTup (aCons (eOp dIxA (eVar 4) (eVar 6)) (aCons (eOp dIxA (eVar 4) (eVar 5)) (aNil)))) (gTup3 2 (gCons3 (gSub3 (eVar 4) (eVar 5)) (gCons3 (gSub3 (eVar 4) (eVar 6)) (gNil3))))))) (sNext)) (sSeq (sIf (tE (eOp dEq (eVar 3) (eC (.int 1)))) (sSeq (sAsg (eSlA (eVar 4) (oSome (eVar 2)) (oNone)) (gName3 7)) (sSeq (sAsg (eSlA (eVar 4) (oNone) (oSome (eVar 2))) (gName3 4)) (whl (tE (eOp dNeNil (eVar 7) (eCall fLst (aNil)))) (sDrop (eMethL mAppend (eVar 4) (aCons (eMethL mPopAt (eVar 7) (aCons (eCall m_law_draw (aCons (eVar 0) (aCons (eCall fLenA (aCons (eVar 7) (aNil))) (aNil)))) aNil)) aNil))) FUEL))) (sNext)) (sRet (eCall fTuple (aCons (eVar 4) (aNil)))))))
noncomputable def m_law_order : FM := runB 8 b_law_order
noncomputable def b_law_cell : SM := sSeq (sAsg (eCall m_law_draw (aCons (eVar 0) (aCons (eVar 1) (aNil)))) (gName3 4)) (sSeq (sAsg (eCall m_law_draw (aCons (eVar 0) (aCons (eVar 3) (aNil)))) (gName3 5)) (sSeq (sIf (tE (eOp dLt (eCall m_law_draw (aCons (eVar 0) (aCons (eC (.int 8)) (aNil)))) (eVar 2))) (sAsg (eC .non) (gName3 4)) (sNext)) (sSeq (sIf (tE (eOp dLt (eCall m_law_draw (aCons (eVar 0) (aCons (eC (.int 8)) (aNil)))) (eVar 2))) (sAsg (eC .non) (gName3 5)) (sNext)) (sRet (eCall fTup (aCons (eVar 4) (aCons (eVar 5) (aNil))))))))
noncomputable def m_law_cell : FM := runB 6 b_law_cell
noncomputable def b_law_machine : SM := sSeq (sAsg (eOp dPlusA (eC (.int 1)) (eCall m_law_draw (aCons (eVar 0) (aCons (eVar 1) (aNil))))) (gName3 3)) (sSeq (sAsg (eOp dIxA (eCall fLst (aCons (eC (.int 0)) (aCons (eC (.int 1)) (aCons (eC (.int 3)) (aCons (eC (.int 6)) (aNil)))))) (eCall m_law_draw (aCons (eVar 0) (aCons (eC (.int 4)) (aNil))))) (gName3 4)) (sSeq (sAsg (eOp dIxA (eCall fLst (aCons (eC (.int 2)) (aCons (eC (.int 3)) (aCons (eC (.int 8)) (aNil))))) (eCall m_law_draw (aCons (eVar 0) (aCons (eC (.int 3)) (aNil))))) (gName3 5)) (sSeq (sAsg (eCall fLst (aNil)) (gName3 6)) (sSeq (sForR (rng1 (aCons (eVar 3) (aNil))) (gName3 7) (sSeq (sAsg (eComp (iRng (rng1 (aCons (eVar 2) (aNil)))) [none, some 0, some 3, some 4, some 5] (gName3 0) (tTrue) (eCall m_law_cell (aCons (eVar 1) (aCons (eVar 2) (aCons (eVar 3) (aCons (eVar 4) (aNil))))))) (gName3 8)) (sSeq (sIf (tAnd3 (tE (eOp dGt (eVar 7) (eC (.int 0)))) (tE (eOp dEq (eCall m_law_draw (aCons (eVar 0) (aCons (eC (.int 3)) (aNil)))) (eC (.int 0))))) (sSeq (sAsg (eCall fList (aCons (eOp dIxA (eVar 6) (eCall m_law_draw (aCons (eVar 0) (aCons (eVar 7) (aNil))))) (aNil))) (gName3 8)) (sAsg (eCall m_law_cell (aCons (eVar 0) (aCons (eVar 3) (aCons (eVar 4) (aCons (eVar 5) (aNil)))))) (gSub3 (eVar 8) (eCall m_law_draw (aCons (eVar 0) (aCons (eVar 2) (aNil))))))) (sNext)) (sDrop (eMethL mAppend (eVar 6) (aCons (eCall fTuple (aCons (eVar 8) (aNil))) aNil)))))) (sRet (eCall fTup (aCons (eVar 2) (aCons (eCall fTuple (aCons (eVar 6) (aNil))) (aNil)))))))))
noncomputable def m_law_machine : FM := runB 9 b_law_machine
noncomputable def b_law_pen : SM := sSeq (sAsg (eOp dPlusA (eOp dTimes (eC (.int 104729)) (eVar 1)) (eC (.int 37))) (gName3 2)) (sSeq (sIf (tE (eOp dLt (eVar 1) (eCall fLenA (aCons (eVar 0) (aNil))))) (sAsg (eOp dIxA (eVar 0) (eVar 1)) (gName3 2)) (sIf (tE (eOp dGt (eCall fLenA (aCons (eVar 0) (aNil))) (eC (.int 0)))) (sAsg (eOp dPlusA (eOp dMod (eOp dIxA (eVar 0) (eOp dMod (eVar 1) (eCall fLenA (aCons (eVar 0) (aNil))))) (eC (.int 2147483629))) (eOp dTimes (eC (.int 69621)) (eVar 1))) (gName3 2)) (sNext))) (sSeq (sIf (tE (eOp dGe (eVar 2) (eOp dPow (eC (.int 10)) (eC (.int 18))))) (sRet (eCall fLst (aCons (eOp dSub (eVar 2) (eOp dPow (eC (.int 10)) (eC (.int 18)))) (aCons (eOp dMod (eVar 2) (eC (.int 2147483587))) (aCons (eC (.int 0)) (aNil)))))) (sNext)) (sRet (eCall fLst (aCons (eC (.int 0)) (aCons (eOp dMod (eVar 2) (eC (.int 2147483587))) (aCons (eC (.int 0)) (aNil))))))))
noncomputable def m_law_pen : FM := runB 3 b_law_pen
noncomputable def b_law : SM := sSeq (sForR (rng1 (aCons (eCall fMax2 (aCons (eC (.int 2)) (aCons (eCall fMin2 (aCons (eCall fLenA (aCons (eVar 0) (aNil))) (aCons (eC (.int 12)) (aNil)))) (aNil)))) (aNil))) (gName3 1) (sSeq (sAsg (eCall m_law_pen (aCons (eVar 0) (aCons (eVar 1) (aNil)))) (gName3 2)) (sSeq (sAsg (eCall m_law_machine (aCons (eVar 2) (aCons (eC (.int 24)) (aCons (eOp dPlusA (eC (.int 1)) (eCall m_law_draw (aCons (eVar 2) (aCons (eC (.int 4)) (aNil))))) (aNil))))) (gName3 3)) (sSeq (sAsg (eCall m_law_order (aCons (eVar 2) (aCons (eCall fLenA (aCons (eOp dIxA (eVar 3) (eC (.int 1))) (aNil))) (aCons (eC (.int 1)) (aNil))))) (gName3 4)) (sSeq (sAsg (eCall m_law_order (aCons (eVar 2) (aCons (eOp dIxA (eVar 3) (eC (.int 0))) (aCons (eC (.int 0)) (aNil))))) (gName3 5)) (sSeq (sAsg (eCall m_law_order (aCons (eVar 2) (aCons (eC (.int 8)) (aCons (eC (.int 0)) (aNil))))) (gName3 6)) (sSeq (sAsg (eCall m_renamed (aCons (eVar 3) (aCons (eVar 4) (aCons (eVar 5) (aCons (eVar 6) (aNil)))))) (gName3 7)) (sSeq (sIf (tNot3 (tE (eCall m_law_right (aCons (eVar 3) (aCons (eVar 7) (aCons (eVar 4) (aCons (eVar 5) (aCons (eVar 6) (aNil))))))))) (sRet (eC (.bl false))) (sNext)) (sSeq (sIf (tE (eOp dNe (eCall fReprD (aCons (eCall m_renamed (aCons (eVar 7) (aCons (eCall m_law_undone (aCons (eVar 4) (aNil))) (aCons (eCall m_law_undone (aCons (eVar 5) (aNil))) (aCons (eCall m_law_undone (aCons (eVar 6) (aNil))) (aNil)))))) (aNil))) (eCall fReprD (aCons (eVar 3) (aNil))))) (sRet (eC (.bl false))) (sNext)) (sFor (eCall fTup (aCons (eVar 4) (aCons (eVar 5) (aCons (eVar 6) (aNil))))) (gName3 8) (sSeq (sIf (tOr3 (tE (eOp dIsNotB (eCall m_is_order (aCons (eVar 8) (aCons (eCall fLenA (aCons (eVar 8) (aNil))) (aNil)))) (eC (.bl true)))) (tE (eOp dIsNotB (eCall m_is_order (aCons (eVar 8) (aCons (eOp dPlusA (eCall fLenA (aCons (eVar 8) (aNil))) (eC (.int 1))) (aNil)))) (eC (.bl false))))) (sRet (eC (.bl false))) (sNext)) (sSeq (sIf (tE (eOp dIsNotB (eCall m_is_order (aCons (eVar 8) (aCons (eOp dSub (eCall fLenA (aCons (eVar 8) (aNil))) (eC (.int 1))) (aNil)))) (eC (.bl false)))) (sRet (eC (.bl false))) (sNext)) (sFor (eCall m_law_no_orders (aCons (eVar 2) (aCons (eVar 8) (aNil)))) (gName3 9) (sIf (tE (eOp dIsNotB (eCall m_is_order (aCons (eVar 9) (aCons (eCall fLenA (aCons (eVar 8) (aNil))) (aNil)))) (eC (.bl false)))) (sRet (eC (.bl false))) (sNext))))))))))))))) (sRet (eAnd3 (eOp dIsB (eCall m_is_order (aCons (eCall fTup (aNil)) (aCons (eC (.int 0)) (aNil)))) (eC (.bl true))) (eOp dIsB (eCall m_is_order (aCons (eCall fTup (aCons (eC (.int 0)) (aNil))) (aCons (eC (.int 1)) (aNil)))) (eC (.bl true)))))
noncomputable def m_law : FM := runB 10 b_law
theorem bl0 {C : List PySem.Value → Prop} (h : C []) : ∀ us : List PySem.Value, us.length = 0 → C us := by
  intro us hl
  rw [List.eq_nil_of_length_eq_zero hl]; exact h
theorem blS {n : Nat} {C : List PySem.Value → Prop} (h : ∀ a (us : List PySem.Value), us.length = n → C (a :: us)) : ∀ us : List PySem.Value, us.length = n + 1 → C us := by
  intro us hl
  cases us with
  | nil => cases hl
  | cons a us => exact h a us (Nat.succ.inj hl)
theorem bl1 {C : List PySem.Value → Prop} (h : ∀ a0, C [a0]) : ∀ us : List PySem.Value, us.length = 1 → C us := blS fun a0 => bl0 (C := fun us => C (a0 :: us)) (h a0)
theorem bl2 {C : List PySem.Value → Prop} (h : ∀ a0 a1, C [a0, a1]) : ∀ us : List PySem.Value, us.length = 2 → C us := blS fun a0 => blS fun a1 => bl0 (C := fun us => C (a0 :: a1 :: us)) (h a0 a1)
theorem bl3 {C : List PySem.Value → Prop} (h : ∀ a0 a1 a2, C [a0, a1, a2]) : ∀ us : List PySem.Value, us.length = 3 → C us := blS fun a0 => blS fun a1 => blS fun a2 => bl0 (C := fun us => C (a0 :: a1 :: a2 :: us)) (h a0 a1 a2)
theorem bl4 {C : List PySem.Value → Prop} (h : ∀ a0 a1 a2 a3, C [a0, a1, a2, a3]) : ∀ us : List PySem.Value, us.length = 4 → C us := blS fun a0 => blS fun a1 => blS fun a2 => blS fun a3 => bl0 (C := fun us => C (a0 :: a1 :: a2 :: a3 :: us)) (h a0 a1 a2 a3)
theorem bl5 {C : List PySem.Value → Prop} (h : ∀ a0 a1 a2 a3 a4, C [a0, a1, a2, a3, a4]) : ∀ us : List PySem.Value, us.length = 5 → C us := blS fun a0 => blS fun a1 => blS fun a2 => blS fun a3 => blS fun a4 => bl0 (C := fun us => C (a0 :: a1 :: a2 :: a3 :: a4 :: us)) (h a0 a1 a2 a3 a4)
inductive FI (K : PySem.W.Frag) (x : Str) (st : Stmt) : Prop
  | mk {f : Addr} {oc kV dc pm cd ct : Value} {od an : Option Addr} {sl : Array (Option Value)} (a : PySem.W.nsIn K mainGlobals x = some (some (.ref f))) (l : K.lookup f = some ⟨oc, od, .func (PySem.W.fnOf x x (defArgs st) (defBody st) (defScope st) .none kV dc pm an cd ct), sl⟩) (c : PySem.W.codeIn K cd x = true) (k : PySem.W.keepIn K (.ref f) = true)
inductive FJ (K : PySem.W.Frag) (mg : Str → Option Value) (x : Str) (st : Stmt) : Prop
  | mk {f : Addr} {fd : FuncData} (F : Fun K x x st f fd) (m : mg x = some (.ref f)) (n : Fnc K mg x)
theorem FI.ok {K : PySem.W.Frag} {x : Str} {st : Stmt} {h : Heap} {mg : Str → Option Value} (i : FI K x st) (X : K.In h) (G : h.Ns mainGlobals mg) : FJ K mg x st := by
  obtain ⟨a, l, c, k⟩ := i
  exact ⟨fun_mk l c k, PySem.W.mg_of X G a, _, _, a, l, PySem.W.mg_of X G a⟩
theorem FJ.n {K : PySem.W.Frag} {x : Str} {st : Stmt} {mg : Str → Option Value} (i : FJ K mg x st) : Fnc K mg x := by
  obtain ⟨_, _, n⟩ := i
  exact n
section
variable {P : Program} {w : World} {K : PySem.W.Frag} {mg : Str → Option Value} {base : Heap} {CA : Str → Addr}
theorem hasJ {x : Str} {st : Stmt} {N ps : List Str} {n k : Nat} {b : SM} (F : FJ K mg x st) (S : FnScope N ps (defScope st)) (hn : ps.length = n)
    (hb : ∀ us : List Value, us.length = ps.length → ∀ (kV doc pm : Value) (an : Option Addr) (cdv ct : Value), bindArgs (PySem.W.fnOf x x (defArgs st) (defBody st) (defScope st) .none kV doc pm an cdv ct) ⟨us, []⟩ = pure (ps.zip us))
    (hbody : ∀ (f : Addr) (cdv : Value), PySem.W.codeIn K cdv x = true → ∀ (A : Around) (outer : List Env) (s : Shared) (H : Hp) (E : XK), Room k (A.deeper (envOfC x (defScope st) s.heap.objs.size f cdv)) →
      PSs3 (cxOf CX0 P w K mg base N x (defScope st) f cdv A outer s H E).nox (defBody st) b) : Has P w K mg base x (k + 1) n (runB N.length b) := by
  obtain ⟨F, m, _⟩ := F
  exact has_of F m S hn (F.binds fun _ _ _ _ _ _ us hl => hb us hl _ _ _ _ _ _) (hbody _)
theorem hasJT {x : Str} {st : Stmt} {N ps : List Str} {n k : Nat} {b : SM} {c T : Addr} (F : FJ K mg x st) (hT : PySem.W.tabIn K x = some (c, T)) (S : FnScope N ps (defScope st)) (hn : ps.length = n)
    (hb : ∀ us : List Value, us.length = ps.length → ∀ (kV doc pm : Value) (an : Option Addr) (cdv ct : Value), bindArgs (PySem.W.fnOf x x (defArgs st) (defBody st) (defScope st) .none kV doc pm an cdv ct) ⟨us, []⟩ = pure (ps.zip us))
    (hbody : ∀ (f : Addr), PySem.W.codeIn K (.ref c) x = true → ∀ (A : Around) (outer : List Env) (s : Shared) (H : Hp) (E : XK), Room k (A.deeper (envOfC x (defScope st) s.heap.objs.size f (.ref c))) →
      PSs3 (cxOf CX0 P w K mg base N x (defScope st) f (.ref c) A outer s H E).nox (defBody st) b) : Has P w K mg base x (k + 1) n (runB N.length b) := by
  obtain ⟨F, m, o⟩ := F
  exact has_ofT F m o hT S hn (F.binds fun _ _ _ _ _ _ us hl => hb us hl _ _ _ _ _ _) (hbody _)
theorem sc_is_below : FnScope ["thing", "count"] ["thing", "count"] (defScope (top bd 1)) := ⟨rfl, rfl, rfl, by decide +kernel, rfl, by decide +kernel, by decide +kernel⟩
theorem h_m_is_below (F : FJ K mg "is_below" (top bd 1)) (z_isinstance : mg "isinstance" = none) (z_int : mg "int" = none) (z_bool : mg "bool" = none) : Has P w K mg base "is_below" 1 2 m_is_below := by
  have sc := sc_is_below
  refine hasJ (k := 0) F sc rfl (bl2 fun _ _ => fun _ _ _ _ _ _ => rfl) fun f cdv hcd A outer s H E hr => ?_
  exact ss3_one (s3_ret (p3_and (p3_isinst (U := "int") rfl z_isinstance rfl z_int boot_int' (by decide) (p3_var 0)) (p3_and (p3_not (p3_isinst (U := "bool") rfl z_isinstance rfl z_bool boot_bool' (by decide) (p3_var 0))) (p3_one (p3_chain op_le op_lt (op3_I0 fun _ _ _ _ => .bl _) (op3_I0 fun _ _ _ _ => .bl _) (p3_int) (p3_var 0) (p3_var 1))))))
theorem sc_are_unlike_below : FnScope ["thing", "many", "count"] ["thing", "many", "count"] (defScope (top bd 2)) := ⟨rfl, rfl, rfl, by decide +kernel, rfl, by decide +kernel, by decide +kernel⟩
theorem nd_0 : List.Nodup (["number", "count"] : List Str) := by decide +kernel
noncomputable abbrev nl_are_unlike_below : List Str := ["thing", "many", "count"]
theorem h_m_are_unlike_below (F : FJ K mg "are_unlike_below" (top bd 2)) (z_all : mg "all" = none) (z_len : mg "len" = none) (z_set : mg "set" = none) (z_isinstance : mg "isinstance" = none) (z_tuple : mg "tuple" = none) (h_m_is_below : Has P w K mg base "is_below" 1 2 m_is_below) : Has P w K mg base "are_unlike_below" 2 3 m_are_unlike_below := by
  have sc := sc_are_unlike_below
  refine hasJ (k := 1) F sc rfl (bl3 fun _ _ _ => fun _ _ _ _ _ _ => rfl) fun f cdv hcd A outer s H E hr => ?_
  exact ss3_cons (s3_if (t3_w (w3_or (t3_not (t3_val (p3_isinst (U := "tuple") rfl z_isinstance rfl z_tuple boot_tuple' (by decide) (p3_var 0)))) (w3_or1 (t3_ne (p3_lenA rfl z_len (a3_cons (p3_var 0) (a3_nil))) (p3_var 1))))) (ss3_one (s3_ret (p3_bl))) (ss3_nil)) (ss3_one (s3_ret (p3_and (p3_all rfl rfl z_all (a3_cons (p3_compC (N' := ["number", "count"]) (ixs := [none, some 2]) rfl (compSd_of (scO := defScope (top bd 2)) (NO := nl_are_unlike_below) rfl rfl (by decide +kernel)) (i3_val (p3_var 0)) (fun _ _ _ _ _ => g3_name 0 nd_0) (fun _ _ _ _ _ => pts3_nil) (fun _ _ _ _ _ => p3_fn h_m_is_below hr (by decide) rfl (a3_cons (p3_var 0) (a3_cons (p3_var 1) (a3_nil))) (len_cons (len_cons len_nil)))) (a3_nil))) (p3_one (p3_eq (p3_lenI rfl z_len (a3_cons (p3_setI hr rfl z_set (a3_cons (p3_var 0) (a3_nil))) a3_nil)) (p3_var 1))))))
theorem sc_is_order : FnScope ["thing", "many"] ["thing", "many"] (defScope (top bd 4)) := ⟨rfl, rfl, rfl, by decide +kernel, rfl, by decide +kernel, by decide +kernel⟩
theorem h_m_is_order (F : FJ K mg "is_order" (top bd 4)) (h_m_are_unlike_below : Has P w K mg base "are_unlike_below" 2 3 m_are_unlike_below) : Has P w K mg base "is_order" 3 2 m_is_order := by
  have sc := sc_is_order
  refine hasJ (k := 2) F sc rfl (bl2 fun _ _ => fun _ _ _ _ _ _ => rfl) fun f cdv hcd A outer s H E hr => ?_
  exact ss3_one (s3_ret (p3_fn h_m_are_unlike_below hr (by decide) rfl (a3_cons (p3_var 0) (a3_cons (p3_var 1) (a3_cons (p3_var 1) (a3_nil)))) (len_cons (len_cons (len_cons len_nil)))))
theorem sc_law_draw : FnScope ["_law_pen_here", "_law_many", "_law_drawn", "_law_number"] ["_law_pen_here", "_law_many"] (defScope (top bd 10)) := ⟨rfl, rfl, rfl, by decide +kernel, rfl, by decide +kernel, by decide +kernel⟩
theorem h_m_law_draw (F : FJ K mg "_law_draw" (top bd 10)) : Has P w K mg base "_law_draw" 1 2 m_law_draw := by
  have sc := sc_law_draw
  refine hasJ (k := 0) F sc rfl (bl2 fun _ _ => fun _ _ _ _ _ _ => rfl) fun f cdv hcd A outer s H E hr => ?_
  exact ss3_cons (s3_asg (p3_plusA (p3_ixA (p3_var 0) (p3_int)) (p3_int)) (g3_sub (p3_var 0) (p3_int))) (ss3_cons (s3_if (t3_gt (p3_ixA (p3_var 0) (p3_int)) (p3_int)) (ss3_cons (s3_set 2 sc.nd (p3_mod (p3_ixA (p3_var 0) (p3_int)) (p3_var 1))) (ss3_cons (s3_asg (p3_div (p3_ixA (p3_var 0) (p3_int)) (p3_var 1)) (g3_sub (p3_var 0) (p3_int))) (ss3_one (s3_ret (p3_var 2))))) (ss3_nil)) (ss3_cons (s3_set 3 sc.nd (p3_mod (p3_times (p3_plusA (p3_ixA (p3_var 0) (p3_int)) (p3_int)) (p3_plusA (p3_times (p3_int) (p3_ixA (p3_var 0) (p3_int))) (p3_int))) (p3_int))) (ss3_cons (s3_set 3 sc.nd (p3_mod (p3_plusA (p3_pow (p3_var 3) (p3_int)) (p3_times (p3_int) (p3_ixA (p3_var 0) (p3_int)))) (p3_int))) (ss3_cons (s3_set 3 sc.nd (p3_mod (p3_pow (p3_var 3) (p3_int)) (p3_ixA (p3_lst (a3_cons (p3_int) (a3_cons (p3_int) (a3_cons (p3_int) (a3_nil))))) (p3_mod (p3_ixA (p3_var 0) (p3_int)) (p3_int))))) (ss3_one (s3_ret (p3_mod (p3_div (p3_var 3) (p3_int)) (p3_var 1))))))))
theorem sc_law_no_orders : FnScope ["_law_pen_here", "_law_order_here", "_law_at", "_law_odd", "_law_some"] ["_law_pen_here", "_law_order_here"] (defScope (top bd 16)) := ⟨rfl, rfl, rfl, by decide +kernel, rfl, by decide +kernel, by decide +kernel⟩
theorem nd_1 : List.Nodup (["_law_one", "_law_order_here", "_law_at"] : List Str) := by decide +kernel
theorem nd_2 : List.Nodup (["_law_one"] : List Str) := by decide +kernel
noncomputable abbrev nl_law_no_orders : List Str := ["_law_pen_here", "_law_order_here", "_law_at", "_law_odd", "_law_some"]
theorem h_m_law_no_orders (F : FJ K mg "_law_no_orders" (top bd 16)) (z_str : mg "str" = none) (z_len : mg "len" = none) (z_list : mg "list" = none) (z_repr : mg "repr" = none) (h_m_law_draw : Has P w K mg base "_law_draw" 1 2 m_law_draw) : Has P w K mg base "_law_no_orders" 2 2 m_law_no_orders := by
  have sc := sc_law_no_orders
  refine hasJ (k := 1) F sc rfl (bl2 fun _ _ => fun _ _ _ _ _ _ => rfl) fun f cdv hcd A outer s H E hr => ?_
  exact ss3_cons (s3_set 2 sc.nd (p3_fn h_m_law_draw hr (by decide) rfl (a3_cons (p3_var 0) (a3_cons (p3_lenA rfl z_len (a3_cons (p3_var 1) (a3_nil))) (a3_nil))) (len_cons (len_cons len_nil)))) (ss3_cons (s3_set 3 sc.nd (p3_lst (a3_cons (p3_lenA rfl z_len (a3_cons (p3_var 1) (a3_nil))) (a3_cons (p3_usub (p3_int)) (a3_cons (p3_bl) (a3_cons (p3_bl) (a3_cons (p3_str1 rfl z_str (a3_cons (p3_ixA (p3_var 1) (p3_var 2)) (a3_nil))) (a3_cons (p3_non) (a3_cons (p3_tup (a3_cons (p3_ixA (p3_var 1) (p3_var 2)) (a3_nil))) (a3_cons (p3_lst (a3_cons (p3_ixA (p3_var 1) (p3_var 2)) (a3_nil))) (a3_cons (p3_dict0) (a3_cons (p3_pow (p3_int) (p3_int)) (a3_nil))))))))))))) (ss3_cons (s3_setcC 4 sc.nd (N' := ["_law_one", "_law_order_here", "_law_at"]) (ixs := [none, some 1, some 2]) rfl (compSd_of (scO := defScope (top bd 16)) (NO := nl_law_no_orders) rfl rfl (by decide +kernel)) (i3_val (p3_var 3)) (fun _ _ _ _ _ => g3_name 0 nd_1) (fun _ _ _ _ _ => pts3_one (t3_ne (p3_reprD hr rfl z_repr (a3_cons (p3_var 0) (a3_nil))) (p3_reprD hr rfl z_repr (a3_cons (p3_ixA (p3_var 1) (p3_var 2)) (a3_nil))))) (fun _ _ _ _ _ => p3_plusA (p3_plusA (p3_slA (p3_var 1) (o3_none) (o3_some (p3_var 2))) (p3_tup (a3_cons (p3_var 0) (a3_nil)))) (p3_slA (p3_var 1) (o3_some (p3_plusA (p3_var 2) (p3_int))) (o3_none)))) (ss3_cons (s3_if (t3_gt (p3_lenA rfl z_len (a3_cons (p3_var 1) (a3_nil))) (p3_int)) (ss3_one (s3_expr (p3_append (p3_var 4) (p3_plusA (p3_plusA (p3_slA (p3_var 1) (o3_none) (o3_some (p3_var 2))) (p3_tup (a3_cons (p3_ixA (p3_var 1) (p3_sub (p3_var 2) (p3_int))) (a3_nil)))) (p3_slA (p3_var 1) (o3_some (p3_plusA (p3_var 2) (p3_int))) (o3_none)))))) (ss3_nil)) (ss3_cons (s3_set 4 sc.nd (p3_plusA (p3_var 4) (p3_lst (a3_cons (p3_plusA (p3_var 1) (p3_tup (a3_cons (p3_lenA rfl z_len (a3_cons (p3_var 1) (a3_nil))) (a3_nil)))) (a3_cons (p3_plusA (p3_slA (p3_var 1) (o3_none) (o3_some (p3_var 2))) (p3_slA (p3_var 1) (o3_some (p3_plusA (p3_var 2) (p3_int))) (o3_none))) (a3_cons (p3_plusA (p3_plusA (p3_slA (p3_var 1) (o3_none) (o3_some (p3_var 2))) (p3_tup (a3_cons (p3_ixA (p3_var 1) (p3_var 2)) (a3_nil)))) (p3_slA (p3_var 1) (o3_some (p3_var 2)) (o3_none))) (a3_nil))))))) (ss3_cons (s3_set 4 sc.nd (p3_plusA (p3_var 4) (p3_lst (a3_cons (p3_list1 rfl z_list (a3_cons (p3_var 1) (a3_nil))) (a3_cons (p3_non) (a3_cons (p3_lenA rfl z_len (a3_cons (p3_var 1) (a3_nil))) (a3_cons (p3_join (p3_str) (p3_compC (N' := ["_law_one"]) (ixs := [none]) rfl (compSd_of (scO := defScope (top bd 16)) (NO := nl_law_no_orders) rfl rfl (by decide +kernel)) (i3_val (p3_var 1)) (fun _ _ _ _ _ => g3_name 0 nd_2) (fun _ _ _ _ _ => pts3_nil) (fun _ _ _ _ _ => p3_str1 rfl z_str (a3_cons (p3_var 0) (a3_nil))))) (a3_nil)))))))) (ss3_one (s3_ret (p3_plusA (p3_var 4) (p3_lst (a3_cons (p3_dict0) (a3_cons (p3_bl) (a3_cons (p3_tup (a3_cons (p3_var 1) (a3_nil))) (a3_cons (p3_plusA (p3_var 1) (p3_tup (a3_cons (p3_tup (a3_nil)) (a3_nil)))) (a3_nil))))))))))))))
theorem sc_places : FnScope ["order"] ["order"] (defScope (top bd 6)) := ⟨rfl, rfl, rfl, by decide +kernel, rfl, by decide +kernel, by decide +kernel⟩
theorem h_m_places (F : FJ K mg "places" (top bd 6)) (z_sorted : mg "sorted" = none) (z_range : mg "range" = none) (z_len : mg "len" = none) {c T : Addr} (t_places : PySem.W.tabIn K "places" = some (c, T)) : Has P w K mg base "places" 1 1 m_places := by
  have sc := sc_places
  refine hasJT (k := 0) F t_places sc rfl (bl1 fun _ => fun _ _ _ _ _ _ => rfl) fun f hcd A outer s H E hr => ?_
  exact ss3_one (s3_ret (p3_sortKey t_places rfl hr rfl z_sorted rfl z_range (a3_cons (p3_lenA rfl z_len (a3_cons (p3_var 0) (a3_nil))) (a3_nil)) rfl rfl rfl rfl rfl rfl rfl rfl rfl rfl (by decide) rfl rfl (fun _ _ _ _ => rfl) rfl rfl rfl))
theorem sc_name_of : FnScope ["order", "number"] ["order", "number"] (defScope (top bd 7)) := ⟨rfl, rfl, rfl, by decide +kernel, rfl, by decide +kernel, by decide +kernel⟩
theorem h_m_name_of (F : FJ K mg "name_of" (top bd 7)) : Has P w K mg base "name_of" 1 2 m_name_of := by
  have sc := sc_name_of
  refine hasJ (k := 0) F sc rfl (bl2 fun _ _ => fun _ _ _ _ _ _ => rfl) fun f cdv hcd A outer s H E hr => ?_
  exact ss3_one (s3_ret (p3_ifE (t3_is (p3_var 1) (p3_non)) (p3_non) (p3_ixA (p3_var 0) (p3_var 1))))
theorem sc_renamed : FnScope ["machine", "rooms", "asks", "answers", "old", "cells"] ["machine", "rooms", "asks", "answers"] (defScope (top bd 5)) := ⟨rfl, rfl, rfl, by decide +kernel, rfl, by decide +kernel, by decide +kernel⟩
theorem nd_3 : List.Nodup (["room", "asks", "rooms", "old", "answers"] : List Str) := by decide +kernel
theorem nd_4 : List.Nodup (["ask", "rooms", "old", "room", "answers"] : List Str) := by decide +kernel
theorem nd_5 : List.Nodup (["room"] : List Str) := by decide +kernel
noncomputable abbrev nl_renamed : List Str := ["machine", "rooms", "asks", "answers", "old", "cells"]
theorem h_m_renamed (F : FJ K mg "renamed" (top bd 5)) (z_tuple : mg "tuple" = none) (h_m_places : Has P w K mg base "places" 1 1 m_places) (h_m_name_of : Has P w K mg base "name_of" 1 2 m_name_of) : Has P w K mg base "renamed" 2 4 m_renamed := by
  have sc := sc_renamed
  refine hasJ (k := 1) F sc rfl (bl4 fun _ _ _ _ => fun _ _ _ _ _ _ => rfl) fun f cdv hcd A outer s H E hr => ?_
  exact ss3_cons (s3_set 4 sc.nd (p3_ixA (p3_var 0) (p3_int))) (ss3_cons (s3_setcC 5 sc.nd (N' := ["room", "asks", "rooms", "old", "answers"]) (ixs := [none, some 2, some 1, some 4, some 3]) rfl (compSd_of (scO := defScope (top bd 5)) (NO := nl_renamed) rfl rfl (by decide +kernel)) (i3_val (p3_fn h_m_places hr (by decide) rfl (a3_cons (p3_var 1) (a3_nil)) (len_cons len_nil))) (fun _ _ _ _ _ => g3_name 0 nd_3) (fun _ _ _ _ _ => pts3_nil) (fun _ _ _ _ _ => p3_compC (N' := ["ask", "rooms", "old", "room", "answers"]) (ixs := [none, some 2, some 3, some 0, some 4]) rfl (CompSc.toSd (compSc_ofD (scO := defScope (top bd 5)) rfl (by decide +kernel))) (i3_val (p3_fn h_m_places hr (by decide) rfl (a3_cons (p3_var 1) (a3_nil)) (len_cons len_nil))) (fun _ _ _ _ _ => g3_name 0 nd_4) (fun _ _ _ _ _ => pts3_nil) (fun _ _ _ _ _ => p3_tup (a3_cons (p3_fn h_m_name_of hr (by decide) rfl (a3_cons (p3_var 1) (a3_cons (p3_ixA (p3_ixA (p3_ixA (p3_var 2) (p3_var 3)) (p3_var 0)) (p3_int)) (a3_nil))) (len_cons (len_cons len_nil))) (a3_cons (p3_fn h_m_name_of hr (by decide) rfl (a3_cons (p3_var 4) (a3_cons (p3_ixA (p3_ixA (p3_ixA (p3_var 2) (p3_var 3)) (p3_var 0)) (p3_int)) (a3_nil))) (len_cons (len_cons len_nil))) (a3_nil)))))) (ss3_one (s3_ret (p3_tup (a3_cons (p3_ixA (p3_var 0) (p3_int)) (a3_cons (p3_tuple1 rfl z_tuple (a3_cons (p3_compC (N' := ["room"]) (ixs := [none]) rfl (compSd_of (scO := defScope (top bd 5)) (NO := nl_renamed) rfl rfl (by decide +kernel)) (i3_val (p3_var 5)) (fun _ _ _ _ _ => g3_name 0 nd_5) (fun _ _ _ _ _ => pts3_nil) (fun _ _ _ _ _ => p3_tuple1 rfl z_tuple (a3_cons (p3_var 0) (a3_nil)))) (a3_nil))) (a3_nil)))))))
theorem sc_law_undone : FnScope ["_law_order_here"] ["_law_order_here"] (defScope (top bd 14)) := ⟨rfl, rfl, rfl, by decide +kernel, rfl, by decide +kernel, by decide +kernel⟩
theorem nd_6 : List.Nodup (["_law_number", "_law_order_here"] : List Str) := by decide +kernel
noncomputable abbrev nl_law_undone : List Str := ["_law_order_here"]
theorem h_m_law_undone (F : FJ K mg "_law_undone" (top bd 14)) (z_tuple : mg "tuple" = none) (z_range : mg "range" = none) (z_len : mg "len" = none) : Has P w K mg base "_law_undone" 1 1 m_law_undone := by
  have sc := sc_law_undone
  refine hasJ (k := 0) F sc rfl (bl1 fun _ => fun _ _ _ _ _ _ => rfl) fun f cdv hcd A outer s H E hr => ?_
  exact ss3_one (s3_ret (p3_tuple1 rfl z_tuple (a3_cons (p3_compC (N' := ["_law_number", "_law_order_here"]) (ixs := [none, some 0]) rfl (compSd_of (scO := defScope (top bd 14)) (NO := nl_law_undone) rfl rfl (by decide +kernel)) (i3_rng1 rfl z_range (a3_cons (p3_lenA rfl z_len (a3_cons (p3_var 0) (a3_nil))) (a3_nil))) (fun _ _ _ _ _ => g3_name 0 nd_6) (fun _ _ _ _ _ => pts3_nil) (fun _ _ _ _ _ => p3_indexT (p3_var 1) (p3_var 0))) (a3_nil))))
theorem sc_law_name : FnScope ["_law_order_here", "_law_number"] ["_law_order_here", "_law_number"] (defScope (top bd 15)) := ⟨rfl, rfl, rfl, by decide +kernel, rfl, by decide +kernel, by decide +kernel⟩
theorem h_m_law_name (F : FJ K mg "_law_name" (top bd 15)) : Has P w K mg base "_law_name" 1 2 m_law_name := by
  have sc := sc_law_name
  refine hasJ (k := 0) F sc rfl (bl2 fun _ _ => fun _ _ _ _ _ _ => rfl) fun f cdv hcd A outer s H E hr => ?_
  exact ss3_cons (s3_if (t3_is (p3_var 1) (p3_non)) (ss3_one (s3_ret (p3_non))) (ss3_nil)) (ss3_one (s3_ret (p3_ixA (p3_var 0) (p3_var 1))))
theorem sc_law_right : FnScope ["_law_machine_here", "_law_told", "_law_rooms", "_law_asks", "_law_answers", "_law_room", "_law_cells", "_law_ask", "_law_goes", "_law_speaks"] ["_law_machine_here", "_law_told", "_law_rooms", "_law_asks", "_law_answers"] (defScope (top bd 17)) := ⟨rfl, rfl, rfl, by decide +kernel, rfl, by decide +kernel, by decide +kernel⟩
theorem h_m_law_right (F : FJ K mg "_law_right" (top bd 17)) (z_repr : mg "repr" = none) (z_range : mg "range" = none) (z_isinstance : mg "isinstance" = none) (z_tuple : mg "tuple" = none) (z_len : mg "len" = none) (z_bool : mg "bool" = none) (h_m_law_name : Has P w K mg base "_law_name" 1 2 m_law_name) : Has P w K mg base "_law_right" 2 5 m_law_right := by
  have sc := sc_law_right
  refine hasJ (k := 1) F sc rfl (bl5 fun _ _ _ _ _ => fun _ _ _ _ _ _ => rfl) fun f cdv hcd A outer s H E hr => ?_
  exact ss3_cons (s3_if (t3_w (w3_or (t3_not (t3_val (p3_isinst (U := "tuple") rfl z_isinstance rfl z_tuple boot_tuple' (by decide) (p3_var 1)))) (w3_or (t3_ne (p3_lenA rfl z_len (a3_cons (p3_var 1) (a3_nil))) (p3_int)) (w3_or (t3_ne (p3_ixA (p3_var 1) (p3_int)) (p3_ixA (p3_var 0) (p3_int))) (w3_or1 (t3_not (t3_val (p3_isinst (U := "tuple") rfl z_isinstance rfl z_tuple boot_tuple' (by decide) (p3_ixA (p3_var 1) (p3_int)))))))))) (ss3_one (s3_ret (p3_bl))) (ss3_nil)) (ss3_cons (s3_if (t3_w (w3_or (t3_ne (p3_lenA rfl z_len (a3_cons (p3_ixA (p3_var 1) (p3_int)) (a3_nil))) (p3_lenA rfl z_len (a3_cons (p3_ixA (p3_var 0) (p3_int)) (a3_nil)))) (w3_or1 (t3_val (p3_isinst (U := "bool") rfl z_isinstance rfl z_bool boot_bool' (by decide) (p3_ixA (p3_var 1) (p3_int))))))) (ss3_one (s3_ret (p3_bl))) (ss3_nil)) (ss3_cons (s3_forR1 PassesOwn.never rfl rfl z_range (a3_cons (p3_lenA rfl z_len (a3_cons (p3_ixA (p3_var 0) (p3_int)) (a3_nil))) (a3_nil)) (g3_name 5 sc.nd) (ss3_cons (s3_set 6 sc.nd (p3_ixA (p3_ixA (p3_var 1) (p3_int)) (p3_ixA (p3_var 2) (p3_var 5)))) (ss3_cons (s3_if (t3_w (w3_or (t3_not (t3_val (p3_isinst (U := "tuple") rfl z_isinstance rfl z_tuple boot_tuple' (by decide) (p3_var 6)))) (w3_or1 (t3_ne (p3_lenA rfl z_len (a3_cons (p3_var 6) (a3_nil))) (p3_ixA (p3_var 0) (p3_int)))))) (ss3_one (s3_ret (p3_bl))) (ss3_nil)) (ss3_one (s3_forR1 PassesOwn.never rfl rfl z_range (a3_cons (p3_ixA (p3_var 0) (p3_int)) (a3_nil)) (g3_name 7 sc.nd) (ss3_cons (s3_asg (p3_ixA (p3_ixA (p3_ixA (p3_var 0) (p3_int)) (p3_var 5)) (p3_var 7)) (g3_tup rfl (gs3_cons (g3_name 8 sc.nd) (gs3_cons (g3_name 9 sc.nd) (gs3_nil))))) (ss3_one (s3_if (t3_ne (p3_reprD hr rfl z_repr (a3_cons (p3_ixA (p3_var 6) (p3_ixA (p3_var 3) (p3_var 7))) (a3_nil))) (p3_reprD hr rfl z_repr (a3_cons (p3_tup (a3_cons (p3_fn h_m_law_name hr (by decide) rfl (a3_cons (p3_var 2) (a3_cons (p3_var 8) (a3_nil))) (len_cons (len_cons len_nil))) (a3_cons (p3_fn h_m_law_name hr (by decide) rfl (a3_cons (p3_var 4) (a3_cons (p3_var 9) (a3_nil))) (len_cons (len_cons len_nil))) (a3_nil)))) (a3_nil)))) (ss3_one (s3_ret (p3_bl))) (ss3_nil))))))))) (ss3_one (s3_ret (p3_bl)))))
theorem sc_law_order : FnScope ["_law_pen_here", "_law_many", "_law_first", "_law_way", "_law_order_here", "_law_one", "_law_other", "_law_left"] ["_law_pen_here", "_law_many", "_law_first"] (defScope (top bd 13)) := ⟨rfl, rfl, rfl, by decide +kernel, rfl, by decide +kernel, by decide +kernel⟩
theorem h_m_law_order (F : FJ K mg "_law_order" (top bd 13)) (z_tuple : mg "tuple" = none) (z_len : mg "len" = none) (z_list : mg "list" = none) (z_range : mg "range" = none) (h_m_law_draw : Has P w K mg base "_law_draw" 1 2 m_law_draw) : Has P w K mg base "_law_order" 2 3 m_law_order := by
  have sc := sc_law_order
  refine hasJ (k := 1) F sc rfl (bl3 fun _ _ _ => fun _ _ _ _ _ _ => rfl) fun f cdv hcd A outer s H E hr => ?_
  exact ss3_cons (s3_set 3 sc.nd (p3_fn h_m_law_draw hr (by decide) rfl (a3_cons (p3_var 0) (a3_cons (p3_int) (a3_nil))) (len_cons (len_cons len_nil)))) (ss3_cons (s3_set 4 sc.nd (p3_listR1 rfl rfl z_list rfl z_range (a3_cons (p3_var 1) (a3_nil)))) (ss3_cons (s3_if (t3_w (w3_and (t3_eq (p3_var 3) (p3_int)) (w3_and1 (t3_gt (p3_var 1) (p3_var 2))))) (ss3_cons (s3_set 5 sc.nd (p3_plusA (p3_var 2) (p3_fn h_m_law_draw hr (by decide) rfl (a3_cons (p3_var 0) (a3_cons (p3_sub (p3_var 1) (p3_var 2)) (a3_nil))) (len_cons (len_cons len_nil))))) (ss3_cons (s3_set 6 sc.nd (p3_plusA (p3_var 2) (p3_fn h_m_law_draw hr (by decide) rfl (a3_cons (p3_var 0) (a3_cons (p3_sub (p3_var 1) (p3_var 2)) (a3_nil))) (len_cons (len_cons len_nil))))) (ss3_one (s3_asg (p3_tup (a3_cons (p3_ixA (p3_var 4) (p3_var 6)) (a3_cons (p3_ixA (p3_var 4) (p3_var 5)) (a3_nil)))) (g3_tup rfl (gs3_cons (g3_sub (p3_var 4) (p3_var 5)) (gs3_cons (g3_sub (p3_var 4) (p3_var 6)) (gs3_nil)))))))) (ss3_nil)) (ss3_cons (s3_if (t3_eq (p3_var 3) (p3_int)) (ss3_cons (s3_set 7 sc.nd (p3_slA (p3_var 4) (o3_some (p3_var 2)) (o3_none))) (ss3_cons (s3_set 4 sc.nd (p3_slA (p3_var 4) (o3_none) (o3_some (p3_var 2)))) (ss3_one (s3_while FUEL PassesOwn.never (t3_neNil hr (p3_var 7) (p3_lst (a3_nil))) (ss3_one (s3_expr (p3_append (p3_var 4) (p3_popAt (p3_var 7) (p3_fn h_m_law_draw hr (by decide) rfl (a3_cons (p3_var 0) (a3_cons (p3_lenA rfl z_len (a3_cons (p3_var 7) (a3_nil))) (a3_nil))) (len_cons (len_cons len_nil))))))))))) (ss3_nil)) (ss3_one (s3_ret (p3_tuple1 rfl z_tuple (a3_cons (p3_var 4) (a3_nil))))))))
theorem sc_law_cell : FnScope ["_law_pen_here", "_law_many", "_law_share", "_law_pool", "_law_goes", "_law_speaks"] ["_law_pen_here", "_law_many", "_law_share", "_law_pool"] (defScope (top bd 11)) := ⟨rfl, rfl, rfl, by decide +kernel, rfl, by decide +kernel, by decide +kernel⟩
theorem h_m_law_cell (F : FJ K mg "_law_cell" (top bd 11)) (h_m_law_draw : Has P w K mg base "_law_draw" 1 2 m_law_draw) : Has P w K mg base "_law_cell" 2 4 m_law_cell := by
  have sc := sc_law_cell
  refine hasJ (k := 1) F sc rfl (bl4 fun _ _ _ _ => fun _ _ _ _ _ _ => rfl) fun f cdv hcd A outer s H E hr => ?_
  exact ss3_cons (s3_set 4 sc.nd (p3_fn h_m_law_draw hr (by decide) rfl (a3_cons (p3_var 0) (a3_cons (p3_var 1) (a3_nil))) (len_cons (len_cons len_nil)))) (ss3_cons (s3_set 5 sc.nd (p3_fn h_m_law_draw hr (by decide) rfl (a3_cons (p3_var 0) (a3_cons (p3_var 3) (a3_nil))) (len_cons (len_cons len_nil)))) (ss3_cons (s3_if (t3_lt (p3_fn h_m_law_draw hr (by decide) rfl (a3_cons (p3_var 0) (a3_cons (p3_int) (a3_nil))) (len_cons (len_cons len_nil))) (p3_var 2)) (ss3_one (s3_set 4 sc.nd (p3_non))) (ss3_nil)) (ss3_cons (s3_if (t3_lt (p3_fn h_m_law_draw hr (by decide) rfl (a3_cons (p3_var 0) (a3_cons (p3_int) (a3_nil))) (len_cons (len_cons len_nil))) (p3_var 2)) (ss3_one (s3_set 5 sc.nd (p3_non))) (ss3_nil)) (ss3_one (s3_ret (p3_tup (a3_cons (p3_var 4) (a3_cons (p3_var 5) (a3_nil)))))))))
theorem sc_law_machine : FnScope ["_law_pen_here", "_law_most", "_law_asks", "_law_many", "_law_share", "_law_pool", "_law_rooms", "_law_k", "_law_cells"] ["_law_pen_here", "_law_most", "_law_asks"] (defScope (top bd 12)) := ⟨rfl, rfl, rfl, by decide +kernel, rfl, by decide +kernel, by decide +kernel⟩
theorem nd_7 : List.Nodup (["_law_ask", "_law_pen_here", "_law_many", "_law_share", "_law_pool"] : List Str) := by decide +kernel
noncomputable abbrev nl_law_machine : List Str := ["_law_pen_here", "_law_most", "_law_asks", "_law_many", "_law_share", "_law_pool", "_law_rooms", "_law_k", "_law_cells"]
theorem h_m_law_machine (F : FJ K mg "_law_machine" (top bd 12)) (z_tuple : mg "tuple" = none) (z_list : mg "list" = none) (z_range : mg "range" = none) (h_m_law_draw : Has P w K mg base "_law_draw" 1 2 m_law_draw) (h_m_law_cell : Has P w K mg base "_law_cell" 2 4 m_law_cell) : Has P w K mg base "_law_machine" 3 3 m_law_machine := by
  have sc := sc_law_machine
  refine hasJ (k := 2) F sc rfl (bl3 fun _ _ _ => fun _ _ _ _ _ _ => rfl) fun f cdv hcd A outer s H E hr => ?_
  exact ss3_cons (s3_set 3 sc.nd (p3_plusA (p3_int) (p3_fn h_m_law_draw hr (by decide) rfl (a3_cons (p3_var 0) (a3_cons (p3_var 1) (a3_nil))) (len_cons (len_cons len_nil))))) (ss3_cons (s3_set 4 sc.nd (p3_ixA (p3_lst (a3_cons (p3_int) (a3_cons (p3_int) (a3_cons (p3_int) (a3_cons (p3_int) (a3_nil)))))) (p3_fn h_m_law_draw hr (by decide) rfl (a3_cons (p3_var 0) (a3_cons (p3_int) (a3_nil))) (len_cons (len_cons len_nil))))) (ss3_cons (s3_set 5 sc.nd (p3_ixA (p3_lst (a3_cons (p3_int) (a3_cons (p3_int) (a3_cons (p3_int) (a3_nil))))) (p3_fn h_m_law_draw hr (by decide) rfl (a3_cons (p3_var 0) (a3_cons (p3_int) (a3_nil))) (len_cons (len_cons len_nil))))) (ss3_cons (s3_set 6 sc.nd (p3_lst (a3_nil))) (ss3_cons (s3_forR1 PassesOwn.never rfl rfl z_range (a3_cons (p3_var 3) (a3_nil)) (g3_name 7 sc.nd) (ss3_cons (s3_setcC 8 sc.nd (N' := ["_law_ask", "_law_pen_here", "_law_many", "_law_share", "_law_pool"]) (ixs := [none, some 0, some 3, some 4, some 5]) rfl (compSd_of (scO := defScope (top bd 12)) (NO := nl_law_machine) rfl rfl (by decide +kernel)) (i3_rng1 rfl z_range (a3_cons (p3_var 2) (a3_nil))) (fun _ _ _ _ _ => g3_name 0 nd_7) (fun _ _ _ _ _ => pts3_nil) (fun _ _ _ _ _ => p3_fn h_m_law_cell hr (by decide) rfl (a3_cons (p3_var 1) (a3_cons (p3_var 2) (a3_cons (p3_var 3) (a3_cons (p3_var 4) (a3_nil))))) (len_cons (len_cons (len_cons (len_cons len_nil)))))) (ss3_cons (s3_if (t3_w (w3_and (t3_gt (p3_var 7) (p3_int)) (w3_and1 (t3_eq (p3_fn h_m_law_draw hr (by decide) rfl (a3_cons (p3_var 0) (a3_cons (p3_int) (a3_nil))) (len_cons (len_cons len_nil))) (p3_int))))) (ss3_cons (s3_set 8 sc.nd (p3_list1 rfl z_list (a3_cons (p3_ixA (p3_var 6) (p3_fn h_m_law_draw hr (by decide) rfl (a3_cons (p3_var 0) (a3_cons (p3_var 7) (a3_nil))) (len_cons (len_cons len_nil)))) (a3_nil)))) (ss3_one (s3_asg (p3_fn h_m_law_cell hr (by decide) rfl (a3_cons (p3_var 0) (a3_cons (p3_var 3) (a3_cons (p3_var 4) (a3_cons (p3_var 5) (a3_nil))))) (len_cons (len_cons (len_cons (len_cons len_nil))))) (g3_sub (p3_var 8) (p3_fn h_m_law_draw hr (by decide) rfl (a3_cons (p3_var 0) (a3_cons (p3_var 2) (a3_nil))) (len_cons (len_cons len_nil))))))) (ss3_nil)) (ss3_one (s3_expr (p3_append (p3_var 6) (p3_tuple1 rfl z_tuple (a3_cons (p3_var 8) (a3_nil))))))))) (ss3_one (s3_ret (p3_tup (a3_cons (p3_var 2) (a3_cons (p3_tuple1 rfl z_tuple (a3_cons (p3_var 6) (a3_nil))) (a3_nil))))))))))
theorem sc_law_pen : FnScope ["_law_script", "_law_k", "_law_cell_here"] ["_law_script", "_law_k"] (defScope (top bd 9)) := ⟨rfl, rfl, rfl, by decide +kernel, rfl, by decide +kernel, by decide +kernel⟩
theorem h_m_law_pen (F : FJ K mg "_law_pen" (top bd 9)) (z_len : mg "len" = none) : Has P w K mg base "_law_pen" 1 2 m_law_pen := by
  have sc := sc_law_pen
  refine hasJ (k := 0) F sc rfl (bl2 fun _ _ => fun _ _ _ _ _ _ => rfl) fun f cdv hcd A outer s H E hr => ?_
  exact ss3_cons (s3_set 2 sc.nd (p3_plusA (p3_times (p3_int) (p3_var 1)) (p3_int))) (ss3_cons (s3_if (t3_lt (p3_var 1) (p3_lenA rfl z_len (a3_cons (p3_var 0) (a3_nil)))) (ss3_one (s3_set 2 sc.nd (p3_ixA (p3_var 0) (p3_var 1)))) (ss3_one (s3_if (t3_gt (p3_lenA rfl z_len (a3_cons (p3_var 0) (a3_nil))) (p3_int)) (ss3_one (s3_set 2 sc.nd (p3_plusA (p3_mod (p3_ixA (p3_var 0) (p3_mod (p3_var 1) (p3_lenA rfl z_len (a3_cons (p3_var 0) (a3_nil))))) (p3_int)) (p3_times (p3_int) (p3_var 1))))) (ss3_nil)))) (ss3_cons (s3_if (t3_ge (p3_var 2) (p3_pow (p3_int) (p3_int))) (ss3_one (s3_ret (p3_lst (a3_cons (p3_sub (p3_var 2) (p3_pow (p3_int) (p3_int))) (a3_cons (p3_mod (p3_var 2) (p3_int)) (a3_cons (p3_int) (a3_nil))))))) (ss3_nil)) (ss3_one (s3_ret (p3_lst (a3_cons (p3_int) (a3_cons (p3_mod (p3_var 2) (p3_int)) (a3_cons (p3_int) (a3_nil)))))))))
theorem sc_law : FnScope ["_law_script", "_law_k", "_law_pen_here", "_law_machine_here", "_law_rooms", "_law_asks", "_law_answers", "_law_told", "_law_order_here", "_law_thing"] ["_law_script"] (defScope (top bd 18)) := ⟨rfl, rfl, rfl, by decide +kernel, rfl, by decide +kernel, by decide +kernel⟩
theorem law_fn {f : Addr} {fd : FuncData} (F : Fun K "law" "law" (top bd 18) f fd) (z_len : mg "len" = none) (z_repr : mg "repr" = none) (z_range : mg "range" = none) (z_max : mg "max" = none) (z_min : mg "min" = none) (h_m_is_order : Has P w K mg base "is_order" 3 2 m_is_order) (h_m_law_no_orders : Has P w K mg base "_law_no_orders" 2 2 m_law_no_orders) (h_m_renamed : Has P w K mg base "renamed" 2 4 m_renamed) (h_m_law_undone : Has P w K mg base "_law_undone" 1 1 m_law_undone) (h_m_law_right : Has P w K mg base "_law_right" 2 5 m_law_right) (h_m_law_order : Has P w K mg base "_law_order" 2 3 m_law_order) (h_m_law_machine : Has P w K mg base "_law_machine" 3 3 m_law_machine) (h_m_law_draw : Has P w K mg base "_law_draw" 1 2 m_law_draw) (h_m_law_pen : Has P w K mg base "_law_pen" 1 2 m_law_pen) : FnOk P w K mg base CX0 4 f fd ["_law_script"] (sp3 K 1 m_law) := by
  have sc := sc_law
  refine fun3 (k := 3) F sc rfl fun cdv hcd A outer s H E hr => ?_
  refine ss3_cons (s3_forR1 PassesOwn.never rfl rfl z_range (a3_cons (p3_max2 rfl rfl z_max (a3_cons (p3_int) (a3_cons (p3_min2 rfl rfl z_min (a3_cons (p3_lenA rfl z_len (a3_cons (p3_var 0) (a3_nil))) (a3_cons (p3_int) (a3_nil)))) (a3_nil)))) (a3_nil)) (g3_name 1 sc.nd) ?_) ?_
  · refine ss3_cons (s3_set 2 sc.nd (p3_fn h_m_law_pen hr (by decide) rfl (a3_cons (p3_var 0) (a3_cons (p3_var 1) (a3_nil))) (len_cons (len_cons len_nil)))) ?_
    refine ss3_cons (s3_set 3 sc.nd (p3_fn h_m_law_machine hr (by decide) rfl (a3_cons (p3_var 2) (a3_cons (p3_int) (a3_cons (p3_plusA (p3_int) (p3_fn h_m_law_draw hr (by decide) rfl (a3_cons (p3_var 2) (a3_cons (p3_int) (a3_nil))) (len_cons (len_cons len_nil)))) (a3_nil)))) (len_cons (len_cons (len_cons len_nil))))) ?_
    refine ss3_cons (s3_set 4 sc.nd (p3_fn h_m_law_order hr (by decide) rfl (a3_cons (p3_var 2) (a3_cons (p3_lenA rfl z_len (a3_cons (p3_ixA (p3_var 3) (p3_int)) (a3_nil))) (a3_cons (p3_int) (a3_nil)))) (len_cons (len_cons (len_cons len_nil))))) ?_
    refine ss3_cons (s3_set 5 sc.nd (p3_fn h_m_law_order hr (by decide) rfl (a3_cons (p3_var 2) (a3_cons (p3_ixA (p3_var 3) (p3_int)) (a3_cons (p3_int) (a3_nil)))) (len_cons (len_cons (len_cons len_nil))))) ?_
    refine ss3_cons (s3_set 6 sc.nd (p3_fn h_m_law_order hr (by decide) rfl (a3_cons (p3_var 2) (a3_cons (p3_int) (a3_cons (p3_int) (a3_nil)))) (len_cons (len_cons (len_cons len_nil))))) ?_
    refine ss3_cons (s3_set 7 sc.nd (p3_fn h_m_renamed hr (by decide) rfl (a3_cons (p3_var 3) (a3_cons (p3_var 4) (a3_cons (p3_var 5) (a3_cons (p3_var 6) (a3_nil))))) (len_cons (len_cons (len_cons (len_cons len_nil)))))) ?_
    refine ss3_cons (s3_if (t3_not (t3_val (p3_fn h_m_law_right hr (by decide) rfl (a3_cons (p3_var 3) (a3_cons (p3_var 7) (a3_cons (p3_var 4) (a3_cons (p3_var 5) (a3_cons (p3_var 6) (a3_nil)))))) (len_cons (len_cons (len_cons (len_cons (len_cons len_nil)))))))) (ss3_one (s3_ret (p3_bl))) (ss3_nil)) ?_
    refine ss3_cons (s3_if (t3_ne (p3_reprD hr rfl z_repr (a3_cons (p3_fn h_m_renamed hr (by decide) rfl (a3_cons (p3_var 7) (a3_cons (p3_fn h_m_law_undone hr (by decide) rfl (a3_cons (p3_var 4) (a3_nil)) (len_cons len_nil)) (a3_cons (p3_fn h_m_law_undone hr (by decide) rfl (a3_cons (p3_var 5) (a3_nil)) (len_cons len_nil)) (a3_cons (p3_fn h_m_law_undone hr (by decide) rfl (a3_cons (p3_var 6) (a3_nil)) (len_cons len_nil)) (a3_nil))))) (len_cons (len_cons (len_cons (len_cons len_nil))))) (a3_nil))) (p3_reprD hr rfl z_repr (a3_cons (p3_var 3) (a3_nil)))) (ss3_one (s3_ret (p3_bl))) (ss3_nil)) ?_
    refine ss3_one (s3_for PassesOwn.never rfl (p3_tup (a3_cons (p3_var 4) (a3_cons (p3_var 5) (a3_cons (p3_var 6) (a3_nil))))) (g3_name 8 sc.nd) ?_)
    · refine ss3_cons (s3_if (t3_w (w3_or (t3_isNotB (p3_fn h_m_is_order hr (by decide) rfl (a3_cons (p3_var 8) (a3_cons (p3_lenA rfl z_len (a3_cons (p3_var 8) (a3_nil))) (a3_nil))) (len_cons (len_cons len_nil))) (p3_bl)) (w3_or1 (t3_isNotB (p3_fn h_m_is_order hr (by decide) rfl (a3_cons (p3_var 8) (a3_cons (p3_plusA (p3_lenA rfl z_len (a3_cons (p3_var 8) (a3_nil))) (p3_int)) (a3_nil))) (len_cons (len_cons len_nil))) (p3_bl))))) (ss3_one (s3_ret (p3_bl))) (ss3_nil)) ?_
      refine ss3_cons (s3_if (t3_isNotB (p3_fn h_m_is_order hr (by decide) rfl (a3_cons (p3_var 8) (a3_cons (p3_sub (p3_lenA rfl z_len (a3_cons (p3_var 8) (a3_nil))) (p3_int)) (a3_nil))) (len_cons (len_cons len_nil))) (p3_bl)) (ss3_one (s3_ret (p3_bl))) (ss3_nil)) ?_
      refine ss3_one (s3_for PassesOwn.never rfl (p3_fn h_m_law_no_orders hr (by decide) rfl (a3_cons (p3_var 2) (a3_cons (p3_var 8) (a3_nil))) (len_cons (len_cons len_nil))) (g3_name 9 sc.nd) ?_)
      · exact ss3_one (s3_if (t3_isNotB (p3_fn h_m_is_order hr (by decide) rfl (a3_cons (p3_var 9) (a3_cons (p3_lenA rfl z_len (a3_cons (p3_var 8) (a3_nil))) (a3_nil))) (len_cons (len_cons len_nil))) (p3_bl)) (ss3_one (s3_ret (p3_bl))) (ss3_nil))
  exact ss3_one (s3_ret (p3_and (p3_isB (p3_fn h_m_is_order hr (by decide) rfl (a3_cons (p3_tup (a3_nil)) (a3_cons (p3_int) (a3_nil))) (len_cons (len_cons len_nil))) (p3_bl)) (p3_one (p3_isB (p3_fn h_m_is_order hr (by decide) rfl (a3_cons (p3_tup (a3_cons (p3_int) (a3_nil))) (a3_cons (p3_int) (a3_nil))) (len_cons (len_cons len_nil))) (p3_bl)))))
end
theorem all_mk {l : PySem.W.OpenLaw} {w : World} {K : PySem.W.Frag} {h : Heap} {mg : Str → Option Value} {fa : Addr} (X : K.In h) (G : h.Ns mainGlobals mg) (hfa : mg "law" = some (.ref fa))
    (a0 : FI K "is_below" (top bd 1))
    (a1 : FI K "are_unlike_below" (top bd 2))
    (a2 : FI K "is_order" (top bd 4))
    (a3 : FI K "_law_draw" (top bd 10))
    (a4 : FI K "_law_no_orders" (top bd 16))
    (a5 : FI K "places" (top bd 6))
    (a6 : FI K "name_of" (top bd 7))
    (a7 : FI K "renamed" (top bd 5))
    (a8 : FI K "_law_undone" (top bd 14))
    (a9 : FI K "_law_name" (top bd 15))
    (a10 : FI K "_law_right" (top bd 17))
    (a11 : FI K "_law_order" (top bd 13))
    (a12 : FI K "_law_cell" (top bd 11))
    (a13 : FI K "_law_machine" (top bd 12))
    (a14 : FI K "_law_pen" (top bd 9))
    (a15 : FI K "law" (top bd 18))
    (z_isinstance : PySem.W.nsIn K mainGlobals "isinstance" = some none)
    (z_int : PySem.W.nsIn K mainGlobals "int" = some none)
    (z_bool : PySem.W.nsIn K mainGlobals "bool" = some none)
    (z_all : PySem.W.nsIn K mainGlobals "all" = some none)
    (z_len : PySem.W.nsIn K mainGlobals "len" = some none)
    (z_set : PySem.W.nsIn K mainGlobals "set" = some none)
    (z_tuple : PySem.W.nsIn K mainGlobals "tuple" = some none)
    (z_str : PySem.W.nsIn K mainGlobals "str" = some none)
    (z_list : PySem.W.nsIn K mainGlobals "list" = some none)
    (z_repr : PySem.W.nsIn K mainGlobals "repr" = some none)
    (z_sorted : PySem.W.nsIn K mainGlobals "sorted" = some none)
    (z_range : PySem.W.nsIn K mainGlobals "range" = some none)
    (z_max : PySem.W.nsIn K mainGlobals "max" = some none)
    (z_min : PySem.W.nsIn K mainGlobals "min" = some none)
    (tb_places : ∃ T, FT K "places" T) :
    ∃ fd : FuncData, (∀ (s : Shared) (v : Value), BindsTo s fd ⟨[v], []⟩ [("_law_script", v)]) ∧ ∀ base : Heap, K.In base → base.Ns mainGlobals mg → FnOk l.prog w K mg base CX0 4 fa fd ["_law_script"] (sp3 K 1 m_law) := by
  have y_isinstance := PySem.W.mg_none_of X G z_isinstance
  have y_int := PySem.W.mg_none_of X G z_int
  have y_bool := PySem.W.mg_none_of X G z_bool
  have y_all := PySem.W.mg_none_of X G z_all
  have y_len := PySem.W.mg_none_of X G z_len
  have y_set := PySem.W.mg_none_of X G z_set
  have y_tuple := PySem.W.mg_none_of X G z_tuple
  have y_str := PySem.W.mg_none_of X G z_str
  have y_list := PySem.W.mg_none_of X G z_list
  have y_repr := PySem.W.mg_none_of X G z_repr
  have y_sorted := PySem.W.mg_none_of X G z_sorted
  have y_range := PySem.W.mg_none_of X G z_range
  have y_max := PySem.W.mg_none_of X G z_max
  have y_min := PySem.W.mg_none_of X G z_min
  obtain ⟨_, _, t_places, _⟩ := tb_places
  have F0 := a0.ok X G
  have F1 := a1.ok X G
  have F2 := a2.ok X G
  have F3 := a3.ok X G
  have F4 := a4.ok X G
  have F5 := a5.ok X G
  have F6 := a6.ok X G
  have F7 := a7.ok X G
  have F8 := a8.ok X G
  have F9 := a9.ok X G
  have F10 := a10.ok X G
  have F11 := a11.ok X G
  have F12 := a12.ok X G
  have F13 := a13.ok X G
  have F14 := a14.ok X G
  have F15 := a15.ok X G
  obtain @⟨fL, fdL, FL, mL, _⟩ := F15
  have e := hfa.symm.trans mL
  cases e
  refine ⟨fdL, fun s v => by obtain ⟨_, _, _, _, _, _, _, _, _, rfl, _⟩ := FL.ex; exact .of_eq rfl, fun base _ _ => ?_⟩
  have t : ∀ {x k n m}, Has l.prog w K mg base x k n m → Has l.prog w K mg base x k n m := id
  have g0 := t (h_m_is_below F0 y_isinstance y_int y_bool)
  have g1 := t (h_m_are_unlike_below F1 y_all y_len y_set y_isinstance y_tuple g0)
  have g2 := t (h_m_is_order F2 g1)
  have g3 := t (h_m_law_draw F3 )
  have g4 := t (h_m_law_no_orders F4 y_str y_len y_list y_repr g3)
  have g5 := t (h_m_places F5 y_sorted y_range y_len t_places)
  have g6 := t (h_m_name_of F6 )
  have g7 := t (h_m_renamed F7 y_tuple g5 g6)
  have g8 := t (h_m_law_undone F8 y_tuple y_range y_len)
  have g9 := t (h_m_law_name F9 )
  have g10 := t (h_m_law_right F10 y_repr y_range y_isinstance y_tuple y_len y_bool g9)
  have g11 := t (h_m_law_order F11 y_tuple y_len y_list y_range g3)
  have g12 := t (h_m_law_cell F12 g3)
  have g13 := t (h_m_law_machine F13 y_tuple y_list y_range g3 g12)
  have g14 := t (h_m_law_pen F14 y_len)
  exact law_fn FL y_len y_repr y_range y_max y_min g2 g4 g7 g8 g10 g11 g13 g3 g14
theorem walk {l : PySem.W.OpenLaw} {q : Program} {loose : List Str} {XP : (Str → Option Value) → Heap → Prop} {YP : World → Heap → Prop} {d : DefRec} {K : Params → PySem.W.Frag} {T0 : Addr} (hn : l.most = some 63) (hdf : d.params.defaults = [])
    (hY : ∀ (w : World) (h : Heap), YP w h → (K w.params).In h ∧ ∀ t ∈ ([T0] : List Addr), h.get? t = some (PySem.W.tabObj #[]))
    (hN : ∀ w : World, PySem.W.noTabs (K w.params) = true) (hD : ([T0] : List Addr).Nodup)
    (hT0 : ∀ w : World, FT (K w.params) "places" T0)
    (F : ∀ (w : World) (mg : Str → Option Value) (fa : Addr) (h : Heap), (K w.params).In h → h.Ns mainGlobals mg → mg d.name = some (.ref fa) →
      ∃ fd : FuncData, (∀ (s : Shared) (u : Value), BindsTo s fd ⟨[u], []⟩ [("_law_script", u)]) ∧ ∀ base : Heap, (K w.params).In base → base.Ns mainGlobals mg → FnOk l.prog w (K w.params) mg base CX0 4 fa fd ["_law_script"] (sp3 (K w.params) 1 m_law))
    (hlaw : ∀ ns : List Int, ns.length ≤ 63 → ∃ S', m_law [.ref 0] (.flst (ns.map D.int) :: tabs0 ["places"]) = some (.bl true, S')) :
    PySem.W.WalkO q loose XP YP l.row.toRowW d [] (fun f vs => PySem.call f vs) :=
  walk_ofT (n := 63) (k := 4) (x := "_law_script") (CX := fun _ => CX0) (sp := fun w => sp3 (K w.params) 1 m_law) (ts := [T0]) hn (by decide) hdf ⟨rfl, by decide, by decide, rfl⟩ hY (fun w t ht => by
    simp only [List.mem_cons, List.not_mem_nil, or_false] at ht
    subst ht; obtain ⟨c, _, h⟩ := hT0 w; exact ⟨c, h⟩) hN F (fun w _ a ns hl hO hS => law_spT (gs := ["places"]) hD (fun i g t h1 h2 => by
    cases i with
    | zero => cases h1; cases h2; exact hT0 w
    | succ i =>
    cases h1) rfl hO hS (hlaw ns hl)) fun _ _ _ _ _ z => z
end G
end
namespace M
open PySem L3 G
theorem as1 {e : EM} {l : Lo} {S S1 : Sto} {x : D} (h : e l S = some (x, S1)) : aCons e aNil l S = some ([x], S1) := by
  unfold aCons; rw [h]; rfl
theorem lst_of {S : Sto} {n : Nat} {xs : List D} (h : S[n]? = some (.lst xs)) : lstOf S n = some xs := by unfold lstOf; rw [h]
theorem get_set {S : Sto} {n : Nat} {o o' : Ob} (h : S[n]? = some o') : (S.set n o)[n]? = some o := List.getElem?_set_self (List.getElem?_eq_some_iff.mp h).1
noncomputable def PQ (n : Nat) (S : Sto) : Prop := ∃ x y z : Int, S[n]? = some (.lst [.int x, .int y, .int z]) ∧ 0 ≤ x ∧ 0 ≤ y ∧ y < 2147483587 ∧ 0 ≤ z
noncomputable def Fn (n : Nat) (S S' : Sto) : Prop := ∀ (j : Nat) (o : Ob), j ≠ n → S[j]? = some o → S'[j]? = some o
theorem Fn.refl (n : Nat) (S : Sto) : Fn n S S := fun _ _ _ h => h
theorem Fn.trans {n : Nat} {A B C : Sto} (h : Fn n A B) (g : Fn n B C) : Fn n A C := fun j o hj e => g j o hj (h j o hj e)
theorem Fn.gr {n : Nat} {A B : Sto} (h : Gr A B) : Fn n A B := fun _ _ _ e => h.get e
theorem Fn.set {n : Nat} {A : Sto} {o : Ob} : Fn n A (A.set n o) := fun j o' hj e => by rw [List.getElem?_set_ne (Ne.symm hj)]; exact e
theorem Fn.lst {n m : Nat} {A B : Sto} {xs : List D} (h : Fn n A B) (hm : m ≠ n) (e : lstOf A m = some xs) : lstOf B m = some xs := by
  unfold lstOf at e ⊢
  cases q : A[m]? with
  | none => rw [q] at e; cases e
  | some o => rw [h m o hm q]; rw [q] at e; exact e
theorem PQ.gr {n : Nat} {A B : Sto} (h : PQ n A) (g : Gr A B) : PQ n B := let ⟨x, y, z, e, r⟩ := h; ⟨x, y, z, g.get e, r⟩
theorem PQ.lt {n : Nat} {A : Sto} (h : PQ n A) : n < A.length := let ⟨x, y, z, e, r⟩ := h; (List.getElem?_eq_some_iff.mp e).1
theorem set_0 {S : Sto} {n : Nat} {a b c v : D} (h : S[n]? = some (.lst [a, b, c])) : setIx (.ref n) (.int 0) v S = some (S.set n (.lst [v, b, c])) := by
  unfold setIx; simp only [h]; rfl
theorem set_2 {S : Sto} {n : Nat} {a b c v : D} (h : S[n]? = some (.lst [a, b, c])) : setIx (.ref n) (.int 2) v S = some (S.set n (.lst [a, b, v])) := by
  unfold setIx; simp only [h]; rfl
theorem prime_at (i : Int) (h0 : 0 ≤ i) (h1 : i < 3) : ∃ p, L2.atI [D.int 2147483647, .int 2147483563, .int 2147483549] i = some (.int p) ∧ 0 < p ∧ p < 2147483648 := by
  have : i = 0 ∨ i = 1 ∨ i = 2 := by omega
  rcases this with rfl | rfl | rfl <;> exact ⟨_, rfl, by decide, by decide⟩
theorem draw_ok (n : Nat) (m : Int) (S : Sto) (h : PQ n S) (h1 : 0 < m) (h2 : m < 1073741824) : Wo (m_law_draw [.ref n, .int m] S) fun v S' => (∃ d : Nat, v = .int d ∧ (d : Int) < m) ∧ PQ n S' ∧ Fn n S S' := by
  obtain ⟨x, y, z, hS, x0, y0, y1, z0⟩ := h
  have sz3 : 3 ≤ sizeLine := by decide
  unfold m_law_draw b_law_draw
  simp only [wo_run, List.map_cons, List.map_nil, List.length_cons, List.length_nil, Nat.reduceAdd, Nat.reduceSub, List.replicate, List.cons_append, List.nil_append]
  refine ws_cut (fun l S' => S' = S.set n (.lst [.int x, .int y, .int (z + 1)]) ∧ l = [some (.ref n), some (.int m), none, none]) ?_ ?_
  · simp only [wo_run, ws_seq, ws_if, wt_e, we_op, we_un, we_var, we_c, ws_asg, ws_ret, ws_drop, ws_next, ws_break, ws_cont, wg_name, wg_sub, wg_tup, wg_nil, wg_cons, wg_dput, we_call, we_methL, we_methS, wa_cons, wa_nil, wt_and, wt_or, wt_not, we_and, we_or, we_not, we_if, wo_I0, wo_I, wo_plusAI, wo_plusAT, we_slA, wp_none, wp_some, ex_int1, wo_slT, wo_intAB, wo_times, wo_ixT, wo_ixL, wo_ixAT, wo_ixAL, wo_ixAS, wo_lenT, wo_lenL, wo_lenAT, wo_lenAL, wo_lenAS, wo_abs, wo_intB, wo_tup, wo_lst, wo_tupleL, wo_eqI, wo_eqB, wo_eqSt, wo_neS, wo_neB, wo_neI, wo_is, wo_isnot, wo_str, wo_isI_bl, wo_isI_int, wo_isI_str, wo_isI_tup, wo_isI_non, isI_same, List.map_cons, List.map_nil, List.length_cons, List.length_nil, Nat.reduceAdd, Nat.reduceSub, List.replicate, List.cons_append, List.nil_append, List.getElem?_cons_zero, List.getElem?_cons_succ, List.set_cons_zero, List.set_cons_succ, ex_some, ex_some1, ex_bl, ex_int, at3_0, at3_1, at3_2, at2_0, at2_1, lstOf_last, decide_eq_true_eq, lst_of hS, set_2 hS, and_self]
  rintro l S1 ⟨rfl, rfl⟩
  have hS1 : (S.set n (.lst [.int x, .int y, .int (z + 1)]))[n]? = some (.lst [.int x, .int y, .int (z + 1)]) := get_set hS
  have f1 : Fn n S (S.set n (.lst [.int x, .int y, .int (z + 1)])) := Fn.set
  generalize S.set n (.lst [.int x, .int y, .int (z + 1)]) = S1 at hS1 f1
  rw [ws_seq]
  by_cases hx : 0 < x
  · simp only [wo_run, ws_seq, ws_if, wt_e, we_op, we_un, we_var, we_c, ws_asg, ws_ret, ws_drop, ws_next, ws_break, ws_cont, wg_name, wg_sub, wg_tup, wg_nil, wg_cons, wg_dput, we_call, we_methL, we_methS, wa_cons, wa_nil, wt_and, wt_or, wt_not, we_and, we_or, we_not, we_if, wo_I0, wo_I, wo_plusAI, wo_plusAT, we_slA, wp_none, wp_some, ex_int1, wo_slT, wo_intAB, wo_times, wo_ixT, wo_ixL, wo_ixAT, wo_ixAL, wo_ixAS, wo_lenT, wo_lenL, wo_lenAT, wo_lenAL, wo_lenAS, wo_abs, wo_intB, wo_tup, wo_lst, wo_tupleL, wo_eqI, wo_eqB, wo_eqSt, wo_neS, wo_neB, wo_neI, wo_is, wo_isnot, wo_str, wo_isI_bl, wo_isI_int, wo_isI_str, wo_isI_tup, wo_isI_non, isI_same, List.map_cons, List.map_nil, List.length_cons, List.length_nil, Nat.reduceAdd, Nat.reduceSub, List.replicate, List.cons_append, List.nil_append, List.getElem?_cons_zero, List.getElem?_cons_succ, List.set_cons_zero, List.set_cons_succ, ex_some, ex_some1, ex_bl, ex_int, at3_0, at3_1, at3_2, at2_0, at2_1, lstOf_last, decide_eq_true_eq, lst_of hS1, hx, decide_true, if_true, h1, h2, true_and, and_self, set_0 hS1]
    have d0 := Int.emod_nonneg x (show m ≠ 0 by omega)
    have d1 := Int.emod_lt_of_pos x h1
    refine ⟨⟨(x % m).toNat, by rw [Int.toNat_of_nonneg d0], by rw [Int.toNat_of_nonneg d0]; exact d1⟩, ⟨x / m, y, z + 1, get_set hS1, Int.ediv_nonneg x0 (by omega), y0, y1, by omega⟩, f1.trans Fn.set⟩
  · simp only [ws_if, wt_e, we_op, we_var, we_c, List.getElem?_cons_zero, ex_some, wo_ixAL, lst_of hS1, ex_some1, at3_0, wo_I0, ex_bl, hx, decide_false, Bool.false_eq_true, if_false, ws_next]
    refine ws_cut (fun l S' => S' = S1 ∧ ∃ a : Int, 0 ≤ a ∧ a < 2147483629 ∧ l = [some (.ref n), some (.int m), none, some (.int a)]) ?_ ?_
    · have f0 : (0 : Int) < 2147483629 := by decide
      have c1 : (-(2 ^ 64) < (40503 : Int) ∧ (40503 : Int) < 2 ^ 64) := by decide
      have c2 : (-(2 ^ 64) < y + 29 ∧ y + 29 < 2 ^ 64) := by omega
      simp only [wo_run, ws_seq, ws_if, wt_e, we_op, we_un, we_var, we_c, ws_asg, ws_ret, ws_drop, ws_next, ws_break, ws_cont, wg_name, wg_sub, wg_tup, wg_nil, wg_cons, wg_dput, we_call, we_methL, we_methS, wa_cons, wa_nil, wt_and, wt_or, wt_not, we_and, we_or, we_not, we_if, wo_I0, wo_I, wo_plusAI, wo_plusAT, we_slA, wp_none, wp_some, ex_int1, wo_slT, wo_intAB, wo_times, wo_ixT, wo_ixL, wo_ixAT, wo_ixAL, wo_ixAS, wo_lenT, wo_lenL, wo_lenAT, wo_lenAL, wo_lenAS, wo_abs, wo_intB, wo_tup, wo_lst, wo_tupleL, wo_eqI, wo_eqB, wo_eqSt, wo_neS, wo_neB, wo_neI, wo_is, wo_isnot, wo_str, wo_isI_bl, wo_isI_int, wo_isI_str, wo_isI_tup, wo_isI_non, isI_same, List.map_cons, List.map_nil, List.length_cons, List.length_nil, Nat.reduceAdd, Nat.reduceSub, List.replicate, List.cons_append, List.nil_append, List.getElem?_cons_zero, List.getElem?_cons_succ, List.set_cons_zero, List.set_cons_succ, ex_some, ex_some1, ex_bl, ex_int, at3_0, at3_1, at3_2, at2_0, at2_1, lstOf_last, decide_eq_true_eq, lst_of hS1, f0, c1, c2, true_or, true_and, and_self]
      first | exact ⟨(by first | rfl | trivial), (by first | rfl | trivial), _, Int.emod_nonneg _ (by decide), Int.emod_lt_of_pos _ (by decide), rfl⟩ | exact ⟨_, Int.emod_nonneg _ (by decide), Int.emod_lt_of_pos _ (by decide), rfl⟩
    rintro l S2 ⟨rfl, a, a0, a1, rfl⟩
    refine ws_cut (fun l S' => S' = S2 ∧ ∃ a : Int, 0 ≤ a ∧ a < 2147483587 ∧ l = [some (.ref n), some (.int m), none, some (.int a)]) ?_ ?_
    · have f0 : (0 : Int) < 2147483587 := by decide
      have c1 : (-(2 ^ 64) < (69621 : Int) ∧ (69621 : Int) < 2 ^ 64) := by decide
      have c2 : (0 : Int) ≤ 3 ∧ (3 : Int) ≤ 1000000 ∧ a.natAbs < 2 ^ 64 := ⟨by decide, by decide, by omega⟩
      simp only [wo_run, ws_seq, ws_if, wt_e, we_op, we_un, we_var, we_c, ws_asg, ws_ret, ws_drop, ws_next, ws_break, ws_cont, wg_name, wg_sub, wg_tup, wg_nil, wg_cons, wg_dput, we_call, we_methL, we_methS, wa_cons, wa_nil, wt_and, wt_or, wt_not, we_and, we_or, we_not, we_if, wo_I0, wo_I, wo_plusAI, wo_plusAT, we_slA, wp_none, wp_some, ex_int1, wo_slT, wo_intAB, wo_times, wo_ixT, wo_ixL, wo_ixAT, wo_ixAL, wo_ixAS, wo_lenT, wo_lenL, wo_lenAT, wo_lenAL, wo_lenAS, wo_abs, wo_intB, wo_tup, wo_lst, wo_tupleL, wo_eqI, wo_eqB, wo_eqSt, wo_neS, wo_neB, wo_neI, wo_is, wo_isnot, wo_str, wo_isI_bl, wo_isI_int, wo_isI_str, wo_isI_tup, wo_isI_non, isI_same, List.map_cons, List.map_nil, List.length_cons, List.length_nil, Nat.reduceAdd, Nat.reduceSub, List.replicate, List.cons_append, List.nil_append, List.getElem?_cons_zero, List.getElem?_cons_succ, List.set_cons_zero, List.set_cons_succ, ex_some, ex_some1, ex_bl, ex_int, at3_0, at3_1, at3_2, at2_0, at2_1, lstOf_last, decide_eq_true_eq, lst_of hS1, f0, c1, c2, true_or, true_and, and_self]
      first | exact ⟨(by first | rfl | trivial), (by first | rfl | trivial), _, Int.emod_nonneg _ (by decide), Int.emod_lt_of_pos _ (by decide), rfl⟩ | exact ⟨_, Int.emod_nonneg _ (by decide), Int.emod_lt_of_pos _ (by decide), rfl⟩
    rintro l S3 ⟨rfl, b, b0, b1, rfl⟩
    refine ws_cut (fun l S' => Gr S3 S' ∧ ∃ a : Int, 0 ≤ a ∧ l = [some (.ref n), some (.int m), none, some (.int a)]) ?_ ?_
    · obtain ⟨p, hp, p0, p1⟩ := prime_at ((z + 1) % 3) (by omega) (by omega)
      have f3 : (0 : Int) < 3 := by decide
      have c2 : (0 : Int) ≤ 5 ∧ (5 : Int) ≤ 1000000 ∧ b.natAbs < 2 ^ 64 := ⟨by decide, by decide, by omega⟩
      have e1 : lstOf (S3 ++ [.lst [.int 2147483647, .int 2147483563, .int 2147483549]]) n = some [.int x, .int y, .int (z + 1)] := Gr.lst ⟨_, rfl⟩ (lst_of hS1)
      simp only [wo_run, ws_seq, ws_if, wt_e, we_op, we_un, we_var, we_c, ws_asg, ws_ret, ws_drop, ws_next, ws_break, ws_cont, wg_name, wg_sub, wg_tup, wg_nil, wg_cons, wg_dput, we_call, we_methL, we_methS, wa_cons, wa_nil, wt_and, wt_or, wt_not, we_and, we_or, we_not, we_if, wo_I0, wo_I, wo_plusAI, wo_plusAT, we_slA, wp_none, wp_some, ex_int1, wo_slT, wo_intAB, wo_times, wo_ixT, wo_ixL, wo_ixAT, wo_ixAL, wo_ixAS, wo_lenT, wo_lenL, wo_lenAT, wo_lenAL, wo_lenAS, wo_abs, wo_intB, wo_tup, wo_lst, wo_tupleL, wo_eqI, wo_eqB, wo_eqSt, wo_neS, wo_neB, wo_neI, wo_is, wo_isnot, wo_str, wo_isI_bl, wo_isI_int, wo_isI_str, wo_isI_tup, wo_isI_non, isI_same, List.map_cons, List.map_nil, List.length_cons, List.length_nil, Nat.reduceAdd, Nat.reduceSub, List.replicate, List.cons_append, List.nil_append, List.getElem?_cons_zero, List.getElem?_cons_succ, List.set_cons_zero, List.set_cons_succ, ex_some, ex_some1, ex_bl, ex_int, at3_0, at3_1, at3_2, at2_0, at2_1, lstOf_last, decide_eq_true_eq, f3, c2, sz3, e1, hp, p0, true_and, and_self]
      first | exact ⟨(by first | rfl | trivial), ⟨_, rfl⟩, _, Int.emod_nonneg _ (by omega), rfl⟩ | exact ⟨⟨_, rfl⟩, _, Int.emod_nonneg _ (by omega), rfl⟩
    rintro l S4 ⟨g4, c, c0, rfl⟩
    have f6 : (0 : Int) < 64 ∧ (64 : Int) < 1073741824 := by decide
    simp only [wo_run, ws_seq, ws_if, wt_e, we_op, we_un, we_var, we_c, ws_asg, ws_ret, ws_drop, ws_next, ws_break, ws_cont, wg_name, wg_sub, wg_tup, wg_nil, wg_cons, wg_dput, we_call, we_methL, we_methS, wa_cons, wa_nil, wt_and, wt_or, wt_not, we_and, we_or, we_not, we_if, wo_I0, wo_I, wo_plusAI, wo_plusAT, we_slA, wp_none, wp_some, ex_int1, wo_slT, wo_intAB, wo_times, wo_ixT, wo_ixL, wo_ixAT, wo_ixAL, wo_ixAS, wo_lenT, wo_lenL, wo_lenAT, wo_lenAL, wo_lenAS, wo_abs, wo_intB, wo_tup, wo_lst, wo_tupleL, wo_eqI, wo_eqB, wo_eqSt, wo_neS, wo_neB, wo_neI, wo_is, wo_isnot, wo_str, wo_isI_bl, wo_isI_int, wo_isI_str, wo_isI_tup, wo_isI_non, isI_same, List.map_cons, List.map_nil, List.length_cons, List.length_nil, Nat.reduceAdd, Nat.reduceSub, List.replicate, List.cons_append, List.nil_append, List.getElem?_cons_zero, List.getElem?_cons_succ, List.set_cons_zero, List.set_cons_succ, ex_some, ex_some1, ex_bl, ex_int, at3_0, at3_1, at3_2, at2_0, at2_1, lstOf_last, decide_eq_true_eq, f6, h1, true_and, and_self]
    have d0 := Int.emod_nonneg (c / 64) (show m ≠ 0 by omega)
    have d1 := Int.emod_lt_of_pos (c / 64) h1
    exact ⟨⟨(c / 64 % m).toNat, by rw [Int.toNat_of_nonneg d0], by rw [Int.toNat_of_nonneg d0]; exact d1⟩, ⟨x, y, z + 1, g4.get hS1, x0, y0, y1, by omega⟩, f1.trans (Fn.gr g4)⟩
theorem pen_ok (ns : List Int) (k : Nat) (S : Sto) (h : lstOf S 0 = some (ns.map D.int)) (hk : k < 1000000) : Wo (m_law_pen [.ref 0, .int k] S) fun v S' => v = .ref S.length ∧ PQ S.length S' ∧ Gr S S' := by
  have sz3 : 3 ≤ sizeLine := by decide
  have c1 : (-(2 ^ 64) < (104729 : Int) ∧ (104729 : Int) < 2 ^ 64) := by decide
  have c2 : (-(2 ^ 64) < (69621 : Int) ∧ (69621 : Int) < 2 ^ 64) := by decide
  have f0 : (0 : Int) < 2147483629 := by decide
  have f1 : (0 : Int) < 2147483587 := by decide
  unfold m_law_pen b_law_pen
  simp only [wo_run, List.map_cons, List.map_nil, List.length_cons, List.length_nil, Nat.reduceAdd, Nat.reduceSub, List.replicate, List.cons_append, List.nil_append]
  refine ws_cut (fun l S' => S' = S ∧ ∃ c : Int, l = [some (.ref 0), some (.int k), some (.int c)]) ?_ ?_
  · simp only [wo_run, ws_seq, ws_if, wt_e, we_op, we_un, we_var, we_c, ws_asg, ws_ret, ws_drop, ws_next, ws_break, ws_cont, wg_name, wg_sub, wg_tup, wg_nil, wg_cons, wg_dput, we_call, we_methL, we_methS, wa_cons, wa_nil, wt_and, wt_or, wt_not, we_and, we_or, we_not, we_if, wo_I0, wo_I, wo_plusAI, wo_plusAT, we_slA, wp_none, wp_some, ex_int1, wo_slT, wo_intAB, wo_times, wo_ixT, wo_ixL, wo_ixAT, wo_ixAL, wo_ixAS, wo_lenT, wo_lenL, wo_lenAT, wo_lenAL, wo_lenAS, wo_abs, wo_intB, wo_tup, wo_lst, wo_tupleL, wo_eqI, wo_eqB, wo_eqSt, wo_neS, wo_neB, wo_neI, wo_is, wo_isnot, wo_str, wo_isI_bl, wo_isI_int, wo_isI_str, wo_isI_tup, wo_isI_non, isI_same, List.map_cons, List.map_nil, List.length_cons, List.length_nil, Nat.reduceAdd, Nat.reduceSub, List.replicate, List.cons_append, List.nil_append, List.getElem?_cons_zero, List.getElem?_cons_succ, List.set_cons_zero, List.set_cons_succ, ex_some, ex_some1, ex_bl, ex_int, at3_0, at3_1, at3_2, at2_0, at2_1, lstOf_last, decide_eq_true_eq, c1, true_or, true_and, and_self]
    first | exact ⟨(by first | rfl | trivial), (by first | rfl | trivial), _, rfl⟩ | exact ⟨_, rfl⟩
  rintro l S1 ⟨rfl, c, rfl⟩
  refine ws_cut (fun l S' => S' = S1 ∧ ∃ c : Int, l = [some (.ref 0), some (.int k), some (.int c)]) ?_ ?_
  · rw [ws_if]
    simp only [wt_e, we_op, we_call, wa_cons, wa_nil, we_var, List.getElem?_cons_zero, List.getElem?_cons_succ, ex_some, wo_lenAL, h, ex_some1, List.length_map, wo_I0, ex_bl]
    by_cases h1 : (k : Int) < (ns.length : Int)
    · obtain ⟨v, hv1, hv2⟩ := atI_in (ns.map D.int) (k : Int) (by omega) (by rw [List.length_map]; exact h1)
      obtain ⟨i, _, rfl⟩ := List.mem_map.mp hv2
      simp only [h1, decide_true, if_true, wo_run, ws_seq, ws_if, wt_e, we_op, we_un, we_var, we_c, ws_asg, ws_ret, ws_drop, ws_next, ws_break, ws_cont, wg_name, wg_sub, wg_tup, wg_nil, wg_cons, wg_dput, we_call, we_methL, we_methS, wa_cons, wa_nil, wt_and, wt_or, wt_not, we_and, we_or, we_not, we_if, wo_I0, wo_I, wo_plusAI, wo_plusAT, we_slA, wp_none, wp_some, ex_int1, wo_slT, wo_intAB, wo_times, wo_ixT, wo_ixL, wo_ixAT, wo_ixAL, wo_ixAS, wo_lenT, wo_lenL, wo_lenAT, wo_lenAL, wo_lenAS, wo_abs, wo_intB, wo_tup, wo_lst, wo_tupleL, wo_eqI, wo_eqB, wo_eqSt, wo_neS, wo_neB, wo_neI, wo_is, wo_isnot, wo_str, wo_isI_bl, wo_isI_int, wo_isI_str, wo_isI_tup, wo_isI_non, isI_same, List.map_cons, List.map_nil, List.length_cons, List.length_nil, Nat.reduceAdd, Nat.reduceSub, List.replicate, List.cons_append, List.nil_append, List.getElem?_cons_zero, List.getElem?_cons_succ, List.set_cons_zero, List.set_cons_succ, ex_some, ex_some1, ex_bl, ex_int, at3_0, at3_1, at3_2, at2_0, at2_1, lstOf_last, decide_eq_true_eq, h, hv1]
      first | exact ⟨(by first | rfl | trivial), (by first | rfl | trivial), _, rfl⟩ | exact ⟨_, rfl⟩
    · simp only [h1, decide_false, Bool.false_eq_true, if_false]
      rw [ws_if]
      simp only [wt_e, we_op, we_call, wa_cons, wa_nil, we_var, we_c, List.getElem?_cons_zero, List.getElem?_cons_succ, ex_some, wo_lenAL, h, ex_some1, List.length_map, wo_I0, ex_bl]
      by_cases h2 : (0 : Int) < (ns.length : Int)
      · obtain ⟨v, hv1, hv2⟩ := atI_in (ns.map D.int) ((k : Int) % (ns.length : Int)) (Int.emod_nonneg _ (by omega)) (by rw [List.length_map]; exact Int.emod_lt_of_pos _ h2)
        obtain ⟨i, _, rfl⟩ := List.mem_map.mp hv2
        simp only [h2, decide_true, if_true, wo_run, ws_seq, ws_if, wt_e, we_op, we_un, we_var, we_c, ws_asg, ws_ret, ws_drop, ws_next, ws_break, ws_cont, wg_name, wg_sub, wg_tup, wg_nil, wg_cons, wg_dput, we_call, we_methL, we_methS, wa_cons, wa_nil, wt_and, wt_or, wt_not, we_and, we_or, we_not, we_if, wo_I0, wo_I, wo_plusAI, wo_plusAT, we_slA, wp_none, wp_some, ex_int1, wo_slT, wo_intAB, wo_times, wo_ixT, wo_ixL, wo_ixAT, wo_ixAL, wo_ixAS, wo_lenT, wo_lenL, wo_lenAT, wo_lenAL, wo_lenAS, wo_abs, wo_intB, wo_tup, wo_lst, wo_tupleL, wo_eqI, wo_eqB, wo_eqSt, wo_neS, wo_neB, wo_neI, wo_is, wo_isnot, wo_str, wo_isI_bl, wo_isI_int, wo_isI_str, wo_isI_tup, wo_isI_non, isI_same, List.map_cons, List.map_nil, List.length_cons, List.length_nil, Nat.reduceAdd, Nat.reduceSub, List.replicate, List.cons_append, List.nil_append, List.getElem?_cons_zero, List.getElem?_cons_succ, List.set_cons_zero, List.set_cons_succ, ex_some, ex_some1, ex_bl, ex_int, at3_0, at3_1, at3_2, at2_0, at2_1, lstOf_last, decide_eq_true_eq, List.length_map, h, hv1, f0, c2, true_or, true_and]
        first | exact ⟨(by first | rfl | trivial), (by first | rfl | trivial), _, rfl⟩ | exact ⟨_, rfl⟩
      · simp only [h2, decide_false, Bool.false_eq_true, if_false, ws_next]
        first | exact ⟨(by first | rfl | trivial), (by first | rfl | trivial), _, rfl⟩ | exact ⟨(by first | rfl | trivial), _, rfl⟩
  rintro l S2 ⟨rfl, c, rfl⟩
  have c3 : (0 : Int) ≤ 18 ∧ (18 : Int) ≤ 1000000 ∧ (10 : Int).natAbs < 2 ^ 64 := by decide
  have m0 := Int.emod_nonneg c (show (2147483587 : Int) ≠ 0 by decide)
  have m1 := Int.emod_lt_of_pos c f1
  have e18 : ((10 : Int) ^ (18 : Int).toNat) = 1000000000000000000 := by decide
  rw [ws_seq, ws_if]
  simp only [wt_e, we_op, we_var, we_c, List.getElem?_cons_zero, List.getElem?_cons_succ, ex_some, wo_I, decide_eq_true_eq, c3, true_and, wo_I0, ex_bl, e18]
  by_cases hc : c ≥ 1000000000000000000
  · simp only [hc, decide_true, if_true, wo_run, ws_seq, ws_if, wt_e, we_op, we_un, we_var, we_c, ws_asg, ws_ret, ws_drop, ws_next, ws_break, ws_cont, wg_name, wg_sub, wg_tup, wg_nil, wg_cons, wg_dput, we_call, we_methL, we_methS, wa_cons, wa_nil, wt_and, wt_or, wt_not, we_and, we_or, we_not, we_if, wo_I0, wo_I, wo_plusAI, wo_plusAT, we_slA, wp_none, wp_some, ex_int1, wo_slT, wo_intAB, wo_times, wo_ixT, wo_ixL, wo_ixAT, wo_ixAL, wo_ixAS, wo_lenT, wo_lenL, wo_lenAT, wo_lenAL, wo_lenAS, wo_abs, wo_intB, wo_tup, wo_lst, wo_tupleL, wo_eqI, wo_eqB, wo_eqSt, wo_neS, wo_neB, wo_neI, wo_is, wo_isnot, wo_str, wo_isI_bl, wo_isI_int, wo_isI_str, wo_isI_tup, wo_isI_non, isI_same, List.map_cons, List.map_nil, List.length_cons, List.length_nil, Nat.reduceAdd, Nat.reduceSub, List.replicate, List.cons_append, List.nil_append, List.getElem?_cons_zero, List.getElem?_cons_succ, List.set_cons_zero, List.set_cons_succ, ex_some, ex_some1, ex_bl, ex_int, at3_0, at3_1, at3_2, at2_0, at2_1, lstOf_last, decide_eq_true_eq, c3, true_and, f1, sz3, e18, and_self]
    exact ⟨⟨_, _, _, get_self _ _, by omega, m0, m1, by decide⟩, ⟨_, rfl⟩⟩
  · simp only [hc, decide_false, Bool.false_eq_true, if_false, ws_next, wo_run, ws_seq, ws_if, wt_e, we_op, we_un, we_var, we_c, ws_asg, ws_ret, ws_drop, ws_next, ws_break, ws_cont, wg_name, wg_sub, wg_tup, wg_nil, wg_cons, wg_dput, we_call, we_methL, we_methS, wa_cons, wa_nil, wt_and, wt_or, wt_not, we_and, we_or, we_not, we_if, wo_I0, wo_I, wo_plusAI, wo_plusAT, we_slA, wp_none, wp_some, ex_int1, wo_slT, wo_intAB, wo_times, wo_ixT, wo_ixL, wo_ixAT, wo_ixAL, wo_ixAS, wo_lenT, wo_lenL, wo_lenAT, wo_lenAL, wo_lenAS, wo_abs, wo_intB, wo_tup, wo_lst, wo_tupleL, wo_eqI, wo_eqB, wo_eqSt, wo_neS, wo_neB, wo_neI, wo_is, wo_isnot, wo_str, wo_isI_bl, wo_isI_int, wo_isI_str, wo_isI_tup, wo_isI_non, isI_same, List.map_cons, List.map_nil, List.length_cons, List.length_nil, Nat.reduceAdd, Nat.reduceSub, List.replicate, List.cons_append, List.nil_append, List.getElem?_cons_zero, List.getElem?_cons_succ, List.set_cons_zero, List.set_cons_succ, ex_some, ex_some1, ex_bl, ex_int, at3_0, at3_1, at3_2, at2_0, at2_1, lstOf_last, decide_eq_true_eq, f1, sz3, true_and, and_self]
    exact ⟨⟨_, _, _, get_self _ _, by decide, m0, m1, by decide⟩, ⟨_, rfl⟩⟩
noncomputable abbrev Cl := Option Nat × Option Nat
noncomputable def oD : Option Nat → D
  | none => .non
  | some k => .int (k : Int)
noncomputable def cD (c : Cl) : D := .tup [oD c.1, oD c.2]
noncomputable def OkC (m : Nat) (c : Cl) : Prop := (∀ k, c.1 = some k → k < m) ∧ ∀ k, c.2 = some k → k < 8
noncomputable def rD (cs : List Cl) : D := .tup (cs.map cD)
theorem cell_ok (n : Nat) (many share pool : Nat) (S : Sto) (h : PQ n S) (h1 : 1 ≤ many) (h2 : many ≤ 100) (h3 : 1 ≤ pool) (h4 : pool ≤ 8) : Wo (m_law_cell [.ref n, .int many, .int share, .int pool] S) fun v S' => (∃ c, v = cD c ∧ OkC many c) ∧ PQ n S' ∧ Fn n S S' := by
  have sz2 : 2 ≤ sizeLine := by decide
  unfold m_law_cell b_law_cell
  simp only [wo_run, List.map_cons, List.map_nil, List.length_cons, List.length_nil, Nat.reduceAdd, Nat.reduceSub, List.replicate, List.cons_append, List.nil_append]
  refine ws_cut (fun l S' => PQ n S' ∧ Fn n S S' ∧ ∃ d : Nat, d < many ∧ l = [some (.ref n), some (.int many), some (.int share), some (.int pool), some (.int d), none]) ?_ ?_
  · simp only [ws_asg, we_call, wa_cons, wa_nil, we_var, List.getElem?_cons_zero, List.getElem?_cons_succ, ex_some]
    refine (draw_ok n many S h (by omega) (by omega)).mono ?_
    rintro x S1 ⟨⟨d, rfl, hd⟩, p, f⟩
    simp only [wg_name, List.set_cons_zero, List.set_cons_succ]
    first | exact ⟨(by first | rfl | trivial), p, f, d, by omega, rfl⟩ | exact ⟨p, f, d, by omega, rfl⟩
  rintro l S1 ⟨p1, f1, d1, hd1, rfl⟩
  refine ws_cut (fun l S' => PQ n S' ∧ Fn n S S' ∧ ∃ d : Nat, d < 8 ∧ l = [some (.ref n), some (.int many), some (.int share), some (.int pool), some (.int d1), some (.int d)]) ?_ ?_
  · simp only [ws_asg, we_call, wa_cons, wa_nil, we_var, List.getElem?_cons_zero, List.getElem?_cons_succ, ex_some]
    refine (draw_ok n pool S1 p1 (by omega) (by omega)).mono ?_
    rintro x S2 ⟨⟨d, rfl, hd⟩, p, f⟩
    simp only [wg_name, List.set_cons_zero, List.set_cons_succ]
    first | exact ⟨(by first | rfl | trivial), p, f1.trans f, d, by omega, rfl⟩ | exact ⟨p, f1.trans f, d, by omega, rfl⟩
  rintro l S2 ⟨p2, f2, d2, hd2, rfl⟩
  refine ws_cut (fun l S' => PQ n S' ∧ Fn n S S' ∧ ∃ g : Option Nat, (∀ k, g = some k → k < many) ∧ l = [some (.ref n), some (.int many), some (.int share), some (.int pool), some (oD g), some (.int d2)]) ?_ ?_
  · simp only [ws_if, wt_e, we_op, we_call, wa_cons, wa_nil, we_var, we_c, List.getElem?_cons_zero, List.getElem?_cons_succ, ex_some]
    refine (draw_ok n 8 S2 p2 (by decide) (by decide)).mono ?_
    rintro x S3 ⟨⟨d, rfl, hd⟩, p, f⟩
    simp only [wo_I0, ex_bl]
    by_cases hc : (d : Int) < (share : Int)
    · simp only [hc, decide_true, if_true, ws_asg, we_c, wg_name, List.set_cons_zero, List.set_cons_succ]
      first | exact ⟨(by first | rfl | trivial), p, f2.trans f, none, (fun k z => by cases z), rfl⟩ | exact ⟨p, f2.trans f, none, (fun k z => by cases z), rfl⟩
    · simp only [hc, decide_false, Bool.false_eq_true, if_false, ws_next]
      first | exact ⟨(by first | rfl | trivial), p, f2.trans f, some d1, (fun k z => by cases z; exact hd1), rfl⟩ | exact ⟨p, f2.trans f, some d1, (fun k z => by cases z; exact hd1), rfl⟩
  rintro l S3 ⟨p3, f3, g, hg, rfl⟩
  refine ws_cut (fun l S' => PQ n S' ∧ Fn n S S' ∧ ∃ s : Option Nat, (∀ k, s = some k → k < 8) ∧ l = [some (.ref n), some (.int many), some (.int share), some (.int pool), some (oD g), some (oD s)]) ?_ ?_
  · simp only [ws_if, wt_e, we_op, we_call, wa_cons, wa_nil, we_var, we_c, List.getElem?_cons_zero, List.getElem?_cons_succ, ex_some]
    refine (draw_ok n 8 S3 p3 (by decide) (by decide)).mono ?_
    rintro x S4 ⟨⟨d, rfl, hd⟩, p, f⟩
    simp only [wo_I0, ex_bl]
    by_cases hc : (d : Int) < (share : Int)
    · simp only [hc, decide_true, if_true, ws_asg, we_c, wg_name, List.set_cons_zero, List.set_cons_succ]
      first | exact ⟨(by first | rfl | trivial), p, f3.trans f, none, (fun k z => by cases z), rfl⟩ | exact ⟨p, f3.trans f, none, (fun k z => by cases z), rfl⟩
    · simp only [hc, decide_false, Bool.false_eq_true, if_false, ws_next]
      first | exact ⟨(by first | rfl | trivial), p, f3.trans f, some d2, (fun k z => by cases z; exact hd2), rfl⟩ | exact ⟨p, f3.trans f, some d2, (fun k z => by cases z; exact hd2), rfl⟩
  rintro l S4 ⟨p4, f4, s, hs, rfl⟩
  simp only [wo_run, ws_seq, ws_if, wt_e, we_op, we_un, we_var, we_c, ws_asg, ws_ret, ws_drop, ws_next, ws_break, ws_cont, wg_name, wg_sub, wg_tup, wg_nil, wg_cons, wg_dput, we_call, we_methL, we_methS, wa_cons, wa_nil, wt_and, wt_or, wt_not, we_and, we_or, we_not, we_if, wo_I0, wo_I, wo_plusAI, wo_plusAT, we_slA, wp_none, wp_some, ex_int1, wo_slT, wo_intAB, wo_times, wo_ixT, wo_ixL, wo_ixAT, wo_ixAL, wo_ixAS, wo_lenT, wo_lenL, wo_lenAT, wo_lenAL, wo_lenAS, wo_abs, wo_intB, wo_tup, wo_lst, wo_tupleL, wo_eqI, wo_eqB, wo_eqSt, wo_neS, wo_neB, wo_neI, wo_is, wo_isnot, wo_str, wo_isI_bl, wo_isI_int, wo_isI_str, wo_isI_tup, wo_isI_non, isI_same, List.map_cons, List.map_nil, List.length_cons, List.length_nil, Nat.reduceAdd, Nat.reduceSub, List.replicate, List.cons_append, List.nil_append, List.getElem?_cons_zero, List.getElem?_cons_succ, List.set_cons_zero, List.set_cons_succ, ex_some, ex_some1, ex_bl, ex_int, at3_0, at3_1, at3_2, at2_0, at2_1, lstOf_last, decide_eq_true_eq, sz2, true_and]
  exact ⟨⟨(g, s), rfl, hg, hs⟩, p4, f4⟩
theorem Fn.set' {n r : Nat} {A B : Sto} {o : Ob} (h : Fn n A B) (hr : A.length ≤ r) : Fn n A (B.set r o) := fun j o' hj e => by
  have := (List.getElem?_eq_some_iff.mp e).1
  rw [List.getElem?_set_ne (by omega)]; exact h j o' hj e
theorem PQ.set {n r : Nat} {S : Sto} {o : Ob} (h : PQ n S) (hr : r ≠ n) : PQ n (S.set r o) := let ⟨x, y, z, e, q⟩ := h; ⟨x, y, z, by rw [List.getElem?_set_ne hr]; exact e, q⟩
theorem Fn.len {n : Nat} {A B : Sto} (h : Fn n A B) (p : PQ n B) : A.length ≤ B.length := by
  by_cases hA : A.length = 0
  · omega
  · by_cases hn : A.length - 1 = n
    · have := p.lt; omega
    · have h1 : A[A.length - 1]? = some A[A.length - 1] := List.getElem?_eq_getElem (by omega)
      have := (List.getElem?_eq_some_iff.mp (h _ _ hn h1)).1
      omega
noncomputable def OkR (m asks : Nat) (cs : List Cl) : Prop := cs.length = asks ∧ ∀ c ∈ cs, OkC m c
noncomputable def mD (asks : Nat) (rs : List (List Cl)) : D := .tup [.int (asks : Int), .tup (rs.map rD)]
structure OkM (asks : Nat) (rs : List (List Cl)) : Prop where
  a1 : 1 ≤ asks
  a4 : asks ≤ 4
  r1 : 1 ≤ rs.length
  r24 : rs.length ≤ 24
  ok : ∀ cs ∈ rs, OkR rs.length asks cs
theorem at_share (i : Nat) (hi : (i : Int) < 4) : ∃ m : Nat, L2.atI [D.int 0, .int 1, .int 3, .int 6] (i : Int) = some (.int m) := by
  have : i = 0 ∨ i = 1 ∨ i = 2 ∨ i = 3 := by omega
  rcases this with rfl | rfl | rfl | rfl
  · exact ⟨0, rfl⟩
  · exact ⟨1, rfl⟩
  · exact ⟨3, rfl⟩
  · exact ⟨6, rfl⟩
theorem at_pool (i : Nat) (hi : (i : Int) < 3) : ∃ m : Nat, L2.atI [D.int 2, .int 3, .int 8] (i : Int) = some (.int m) ∧ 1 ≤ m ∧ m ≤ 8 := by
  have : i = 0 ∨ i = 1 ∨ i = 2 := by omega
  rcases this with rfl | rfl | rfl
  · exact ⟨2, rfl, by decide, by decide⟩
  · exact ⟨3, rfl, by decide, by decide⟩
  · exact ⟨8, rfl, by decide, by decide⟩
theorem cells_of {m : Nat} : ∀ (vs : List D), (∀ v ∈ vs, ∃ c, v = cD c ∧ OkC m c) → ∃ cs : List Cl, vs = cs.map cD ∧ ∀ c ∈ cs, OkC m c
  | [], _ => ⟨[], rfl, fun t h => by cases h⟩
  | v :: vs, h => by
    obtain ⟨c, rfl, hc⟩ := h v List.mem_cons_self
    obtain ⟨cs, h1, h2⟩ := cells_of vs fun u hu => h u (List.mem_cons_of_mem _ hu)
    refine ⟨c :: cs, by rw [h1]; rfl, fun t ht => ?_⟩
    rcases List.mem_cons.mp ht with rfl | ht
    · exact hc
    · exact h2 t ht
theorem set_at {S : Sto} {q d : Nat} {xs : List D} {v : D} (h : S[q]? = some (.lst xs)) (hd : d < xs.length) : setIx (.ref q) (.int (d : Int)) v S = some (S.set q (.lst (xs.set d v))) := by
  unfold setIx
  simp only [h]
  have : L2.ixN xs.length (d : Int) = some d := by unfold L2.ixN; simp; omega
  rw [this]; rfl
theorem wo_listT {S : Sto} {xs : List D} {Q : D → Sto → Prop} : Wo (fList [.tup xs] S) Q = Q (.ref S.length) (S ++ [.lst xs]) := wo_some
theorem machine_ok (n asks : Nat) (S : Sto) (h : PQ n S) (ha1 : 1 ≤ asks) (ha4 : asks ≤ 4) : Wo (m_law_machine [.ref n, .int 24, .int asks] S) fun v S' => (∃ rs, v = mD asks rs ∧ OkM asks rs) ∧ PQ n S' ∧ Fn n S S' := by
  have sz0 : 0 ≤ sizeLine := by decide
  have sz2 : 2 ≤ sizeLine := by decide
  have sz3 : 3 ≤ sizeLine := by decide
  have sz4 : 4 ≤ sizeLine := by decide
  have big : 1000 ≤ sizeLine := by decide
  unfold m_law_machine b_law_machine
  simp only [wo_run, List.map_cons, List.map_nil, List.length_cons, List.length_nil, Nat.reduceAdd, Nat.reduceSub, List.replicate, List.cons_append, List.nil_append]
  refine ws_cut (fun l S' => PQ n S' ∧ Fn n S S' ∧ ∃ many : Nat, 1 ≤ many ∧ many ≤ 24 ∧ l = [some (.ref n), some (.int 24), some (.int asks), some (.int many), none, none, none, none, none]) ?_ ?_
  · simp only [ws_asg, we_op, we_call, wa_cons, wa_nil, we_var, we_c, List.getElem?_cons_zero, List.getElem?_cons_succ, ex_some]
    refine (draw_ok n 24 S h (by decide) (by decide)).mono ?_
    rintro x S1 ⟨⟨d, rfl, hd⟩, p, f⟩
    have e : (1 : Int) + (d : Int) = ((1 + d : Nat) : Int) := by push_cast; rfl
    simp only [wo_plusAI, e, wg_name, List.set_cons_zero, List.set_cons_succ]
    first | exact ⟨(by first | rfl | trivial), p, f, 1 + d, by omega, by omega, rfl⟩ | exact ⟨p, f, 1 + d, by omega, by omega, rfl⟩
  rintro l S1 ⟨p1, f1, many, m1, m24, rfl⟩
  refine ws_cut (fun l S' => PQ n S' ∧ Fn n S S' ∧ ∃ share : Nat, l = [some (.ref n), some (.int 24), some (.int asks), some (.int many), some (.int share), none, none, none, none]) ?_ ?_
  · simp only [ws_asg, we_op, we_call, wa_cons, wa_nil, we_var, we_c, List.getElem?_cons_zero, List.getElem?_cons_succ, ex_some, wo_lst, List.length_cons, List.length_nil, Nat.reduceAdd, sz4, true_and]
    refine (draw_ok n 4 _ (p1.gr ⟨_, rfl⟩) (by decide) (by decide)).mono ?_
    rintro x S2 ⟨⟨d, rfl, hd⟩, p, f⟩
    obtain ⟨m, hm⟩ := at_share d hd
    have hl := f.lst (Ne.symm (Nat.ne_of_lt p1.lt)) lstOf_last
    simp only [wo_ixAL, hl, ex_some1, hm, wg_name, List.set_cons_zero, List.set_cons_succ]
    first | exact ⟨(by first | rfl | trivial), p, f1.trans ((Fn.gr ⟨_, rfl⟩).trans f), m, rfl⟩ | exact ⟨p, f1.trans ((Fn.gr ⟨_, rfl⟩).trans f), m, rfl⟩
  rintro l S2 ⟨p2, f2, share, rfl⟩
  refine ws_cut (fun l S' => PQ n S' ∧ Fn n S S' ∧ ∃ pool : Nat, 1 ≤ pool ∧ pool ≤ 8 ∧ l = [some (.ref n), some (.int 24), some (.int asks), some (.int many), some (.int share), some (.int pool), none, none, none]) ?_ ?_
  · simp only [ws_asg, we_op, we_call, wa_cons, wa_nil, we_var, we_c, List.getElem?_cons_zero, List.getElem?_cons_succ, ex_some, wo_lst, List.length_cons, List.length_nil, Nat.reduceAdd, sz3, true_and]
    refine (draw_ok n 3 _ (p2.gr ⟨_, rfl⟩) (by decide) (by decide)).mono ?_
    rintro x S3 ⟨⟨d, rfl, hd⟩, p, f⟩
    obtain ⟨m, hm, hm1, hm2⟩ := at_pool d hd
    have hl := f.lst (Ne.symm (Nat.ne_of_lt p2.lt)) lstOf_last
    simp only [wo_ixAL, hl, ex_some1, hm, wg_name, List.set_cons_zero, List.set_cons_succ]
    first | exact ⟨(by first | rfl | trivial), p, f2.trans ((Fn.gr ⟨_, rfl⟩).trans f), m, hm1, hm2, rfl⟩ | exact ⟨p, f2.trans ((Fn.gr ⟨_, rfl⟩).trans f), m, hm1, hm2, rfl⟩
  rintro l S3 ⟨p3, f3, pool, po1, po2, rfl⟩
  refine ws_cut (fun l S' => PQ n S' ∧ Fn n S S' ∧ ∃ r, S.length ≤ r ∧ r ≠ n ∧ S'[r]? = some (.lst []) ∧ l = [some (.ref n), some (.int 24), some (.int asks), some (.int many), some (.int share), some (.int pool), some (.ref r), none, none]) ?_ ?_
  · simp only [wo_run, ws_seq, ws_if, wt_e, we_op, we_un, we_var, we_c, ws_asg, ws_ret, ws_drop, ws_next, ws_break, ws_cont, wg_name, wg_sub, wg_tup, wg_nil, wg_cons, wg_dput, we_call, we_methL, we_methS, wa_cons, wa_nil, wt_and, wt_or, wt_not, we_and, we_or, we_not, we_if, wo_I0, wo_I, wo_plusAI, wo_plusAT, we_slA, wp_none, wp_some, ex_int1, wo_slT, wo_intAB, wo_times, wo_ixT, wo_ixL, wo_ixAT, wo_ixAL, wo_ixAS, wo_lenT, wo_lenL, wo_lenAT, wo_lenAL, wo_lenAS, wo_abs, wo_intB, wo_tup, wo_lst, wo_tupleL, wo_eqI, wo_eqB, wo_eqSt, wo_neS, wo_neB, wo_neI, wo_is, wo_isnot, wo_str, wo_isI_bl, wo_isI_int, wo_isI_str, wo_isI_tup, wo_isI_non, isI_same, List.map_cons, List.map_nil, List.length_cons, List.length_nil, Nat.reduceAdd, Nat.reduceSub, List.replicate, List.cons_append, List.nil_append, List.getElem?_cons_zero, List.getElem?_cons_succ, List.set_cons_zero, List.set_cons_succ, ex_some, ex_some1, ex_bl, ex_int, at3_0, at3_1, at3_2, at2_0, at2_1, lstOf_last, decide_eq_true_eq, sz0, true_and]
    have := f3.len p3
    first | exact ⟨(by first | rfl | trivial), p3.gr ⟨_, rfl⟩, f3.trans (Fn.gr ⟨_, rfl⟩), _, this, Ne.symm (Nat.ne_of_lt p3.lt), get_self _ _, rfl⟩ | exact ⟨p3.gr ⟨_, rfl⟩, f3.trans (Fn.gr ⟨_, rfl⟩), _, this, Ne.symm (Nat.ne_of_lt p3.lt), get_self _ _, rfl⟩
  rintro l S4 ⟨p4, f4, r, hr, hrn, h4, rfl⟩
  rw [ws_seq]
  refine ws_rng (n := many) (fun i l S' => PQ n S' ∧ Fn n S S' ∧ ∃ rs : List (List Cl), rs.length = i ∧ (∀ cs ∈ rs, OkR many asks cs) ∧ S'[r]? = some (.lst (rs.map rD)) ∧ ∃ y7 y8, l = [some (.ref n), some (.int 24), some (.int asks), some (.int many), some (.int share), some (.int pool), some (.ref r), y7, y8]) (fun _ _ => False) (as1 rfl) (by omega) ⟨p4, f4, [], rfl, (fun cs z => by cases z), h4, _, _, rfl⟩ ?_ ?_ (fun d l S h => h.elim)
  · rintro i l S5 hi ⟨p5, f5, rs, hl5, ok5, h5, y7, y8, rfl⟩
    simp only [wg_name, List.set_cons_zero, List.set_cons_succ]
    have hrl := (List.getElem?_eq_some_iff.mp h5).1
    refine ws_cut (fun l S' => PQ n S' ∧ Fn n S5 S' ∧ ∃ q cs, S5.length ≤ q ∧ OkR many asks cs ∧ S'[q]? = some (.lst (cs.map cD)) ∧ l = [some (.ref n), some (.int 24), some (.int asks), some (.int many), some (.int share), some (.int pool), some (.ref r), some (.int i), some (.ref q)]) ?_ ?_
    · rw [ws_asg]
      refine we_compV (rngD 0 asks) (fun v => ∃ c, v = cD c ∧ OkC many c) (fun _ S' => PQ n S' ∧ Fn n S5 S') (fun l => ∃ y0, l = [y0, some (.ref n), some (.int many), some (.int share), some (.int pool)]) (rng_im (as1 rfl) (by omega)) ⟨p5, Fn.refl n S5⟩ ⟨_, rfl⟩ (fun i S _ => rfl) (by rw [rngD_len]; omega) ?_ ?_
      · rintro j x l S6 hx ⟨y0, rfl⟩ ⟨p6, f6⟩
        simp only [wg_name, List.set_cons_zero]
        refine ⟨⟨_, rfl⟩, ?_⟩
        simp only [we_call, wa_cons, wa_nil, we_var, List.getElem?_cons_zero, List.getElem?_cons_succ, ex_some]
        refine (cell_ok n many share pool S6 p6 m1 (by omega) po1 po2).mono ?_
        rintro v S7 ⟨hc, p7, f7⟩
        exact ⟨hc, p7, f6.trans f7⟩
      · rintro vs S6 hl hv ⟨p6, f6⟩
        obtain ⟨cs, rfl, hcs⟩ := cells_of vs hv
        rw [rngD_len, List.length_map] at hl
        simp only [wg_name, List.set_cons_zero, List.set_cons_succ]
        first | exact ⟨(by first | rfl | trivial), p6.gr ⟨_, rfl⟩, f6.trans (Fn.gr ⟨_, rfl⟩), _, cs, f6.len p6, ⟨hl, hcs⟩, get_self _ _, rfl⟩ | exact ⟨p6.gr ⟨_, rfl⟩, f6.trans (Fn.gr ⟨_, rfl⟩), _, cs, f6.len p6, ⟨hl, hcs⟩, get_self _ _, rfl⟩
    rintro l S6 ⟨p6, f6, q, cs, hq, okc, h6, rfl⟩
    have h6r := f6 r _ hrn h5
    have fin : ∀ {S9 : Sto} {q9 : Nat} {cs9 : List Cl}, PQ n S9 → Fn n S5 S9 → S9[q9]? = some (.lst (cs9.map cD)) → OkR many asks cs9 →
        Ws (sDrop (eMethL mAppend (eVar 6) (aCons (eCall fTuple (aCons (eVar 8) (aNil))) aNil))) [some (.ref n), some (.int 24), some (.int asks), some (.int many), some (.int share), some (.int pool), some (.ref r), some (.int i), some (.ref q9)] S9 fun f l2 S2 =>
          ((f = .nx ∨ f = .ct) ∧ PQ n S2 ∧ Fn n S S2 ∧ ∃ rs : List (List Cl), rs.length = i + 1 ∧ (∀ cs ∈ rs, OkR many asks cs) ∧ S2[r]? = some (.lst (rs.map rD)) ∧ ∃ y7 y8, l2 = [some (.ref n), some (.int 24), some (.int asks), some (.int many), some (.int share), some (.int pool), some (.ref r), y7, y8]) ∨ ∃ d, f = .rt d ∧ False := fun {S9 q9 cs9} p9 f9 h9 ok9 => by
      have h9r := f9 r _ hrn h5
      simp only [ws_drop, we_methL, we_call, we_var, wa_cons, wa_nil, List.getElem?_cons_zero, List.getElem?_cons_succ, ex_some, ex_some1, wo_tupleL, lst_of h9, wo_append]
      refine ⟨⟨_, show recvL (.ref r) S9 = some _ from lst_of h9r⟩, _, h9r, by rw [List.length_map]; omega, .inl ⟨(by first | exact .inl rfl | exact .inl trivial | trivial), p9.set hrn, (f5.trans f9).set' hr, rs ++ [cs9], by simp [hl5], fun c hc => ?_, ?_, _, _, rfl⟩⟩
      · rcases List.mem_append.mp hc with z | z
        · exact ok5 c z
        · rw [List.mem_singleton.mp z]; exact ok9
      · rw [get_set h9r, List.map_append]; rfl
    rw [ws_seq, ws_if]
    simp only [wt_and, wt_e, we_op, we_call, wa_cons, wa_nil, we_var, we_c, List.getElem?_cons_zero, List.getElem?_cons_succ, ex_some, wo_I0, ex_bl]
    by_cases hi0 : (0 : Int) < (i : Int)
    · simp only [hi0, decide_true, if_true]
      refine (draw_ok n 3 S6 p6 (by decide) (by decide)).mono ?_
      rintro x S7 ⟨⟨d, rfl, hd⟩, p7, f7⟩
      simp only [wo_eqI, ex_bl]
      by_cases hd0 : (d : Int) = 0
      · simp only [hd0, decide_true, if_true]
        have f57 := f6.trans f7
        refine ws_cut (fun l S' => PQ n S' ∧ Fn n S5 S' ∧ ∃ q cs, q ≠ n ∧ S5.length ≤ q ∧ OkR many asks cs ∧ S'[q]? = some (.lst (cs.map cD)) ∧ l = [some (.ref n), some (.int 24), some (.int asks), some (.int many), some (.int share), some (.int pool), some (.ref r), some (.int i), some (.ref q)]) ?_ ?_
        · simp only [ws_asg, we_op, we_call, wa_cons, wa_nil, we_var, List.getElem?_cons_zero, List.getElem?_cons_succ, ex_some]
          refine (draw_ok n (i : Int) S7 p7 hi0 (by omega)).mono ?_
          rintro x S8 ⟨⟨t, rfl, ht⟩, p8, f8⟩
          have f58 := f57.trans f8
          obtain ⟨u, hu1, hu2⟩ := atI_in (rs.map rD) (t : Int) (by omega) (by rw [List.length_map]; omega)
          obtain ⟨cs', hcs', rfl⟩ := List.mem_map.mp hu2
          simp only [wo_ixAL, lst_of (f58 r _ hrn h5), ex_some1, hu1, rD, wo_listT, wg_name, List.set_cons_zero, List.set_cons_succ]
          first | exact ⟨(by first | rfl | trivial), p8.gr ⟨_, rfl⟩, f58.trans (Fn.gr ⟨_, rfl⟩), _, cs', Ne.symm (Nat.ne_of_lt p8.lt), f58.len p8, ok5 _ hcs', get_self _ _, rfl⟩ | exact ⟨p8.gr ⟨_, rfl⟩, f58.trans (Fn.gr ⟨_, rfl⟩), _, cs', Ne.symm (Nat.ne_of_lt p8.lt), f58.len p8, ok5 _ hcs', get_self _ _, rfl⟩
        rintro l S8 ⟨p8, f8, q8, cs8, hq8, hql, ok8, h8, rfl⟩
        rw [ws_asg]
        simp only [we_call, wa_cons, wa_nil, we_var, List.getElem?_cons_zero, List.getElem?_cons_succ, ex_some]
        refine (cell_ok n many share pool S8 p8 m1 (by omega) po1 po2).mono ?_
        rintro v S9 ⟨⟨c, rfl, hc⟩, p9, f9⟩
        rw [wg_sub]
        simp only [we_call, wa_cons, wa_nil, we_var, List.getElem?_cons_zero, List.getElem?_cons_succ, ex_some]
        refine (draw_ok n (asks : Int) S9 p9 (by omega) (by omega)).mono ?_
        rintro x S10 ⟨⟨t, rfl, ht⟩, p10, f10⟩
        have h10 := f10 q8 _ hq8 (f9 q8 _ hq8 h8)
        have hlt : t < (cs8.map cD).length := by rw [List.length_map, ok8.1]; omega
        refine ⟨_, set_at h10 hlt, ?_⟩
        refine fin (cs9 := cs8.set t c) (p10.set hq8) (((f8.trans f9).trans f10).set' hql) ?_ ⟨by rw [List.length_set]; exact ok8.1, fun c' hc' => ?_⟩
        · rw [get_set h10, List.map_set]
        · rcases List.mem_or_eq_of_mem_set hc' with z | z
          · exact ok8.2 c' z
          · rw [z]; exact hc
      · simp only [hd0, decide_false, Bool.false_eq_true, if_false, ws_next]
        exact fin p7 (f6.trans f7) (f7 q _ (by have := p5.lt; omega) h6) okc
    · simp only [hi0, decide_false, Bool.false_eq_true, if_false, ws_next]
      exact fin p6 f6 h6 okc
  · rintro l S5 ⟨p5, f5, rs, hl5, ok5, h5, y7, y8, rfl⟩
    simp only [wo_run, ws_seq, ws_if, wt_e, we_op, we_un, we_var, we_c, ws_asg, ws_ret, ws_drop, ws_next, ws_break, ws_cont, wg_name, wg_sub, wg_tup, wg_nil, wg_cons, wg_dput, we_call, we_methL, we_methS, wa_cons, wa_nil, wt_and, wt_or, wt_not, we_and, we_or, we_not, we_if, wo_I0, wo_I, wo_plusAI, wo_plusAT, we_slA, wp_none, wp_some, ex_int1, wo_slT, wo_intAB, wo_times, wo_ixT, wo_ixL, wo_ixAT, wo_ixAL, wo_ixAS, wo_lenT, wo_lenL, wo_lenAT, wo_lenAL, wo_lenAS, wo_abs, wo_intB, wo_tup, wo_lst, wo_tupleL, wo_eqI, wo_eqB, wo_eqSt, wo_neS, wo_neB, wo_neI, wo_is, wo_isnot, wo_str, wo_isI_bl, wo_isI_int, wo_isI_str, wo_isI_tup, wo_isI_non, isI_same, List.map_cons, List.map_nil, List.length_cons, List.length_nil, Nat.reduceAdd, Nat.reduceSub, List.replicate, List.cons_append, List.nil_append, List.getElem?_cons_zero, List.getElem?_cons_succ, List.set_cons_zero, List.set_cons_succ, ex_some, ex_some1, ex_bl, ex_int, at3_0, at3_1, at3_2, at2_0, at2_1, lstOf_last, decide_eq_true_eq, lst_of h5, sz2, true_and]
    exact ⟨⟨rs, rfl, ha1, ha4, by omega, by omega, by rw [hl5]; exact ok5⟩, p5, f5⟩
end M
namespace M
open PySem L3 G PyProof.Rows
theorem we_chain {f g : D → D → Sto → Option (D × Sto)} {a b c : EM} {l : Lo} {S : Sto} {Q : D → Sto → Prop} : We (eChain f g a b c) l S Q = We a l S fun x S1 => We b l S1 fun y S2 => Wo (f x y S2) fun r S3 => ∃ k, r = .bl k ∧ if k = true then We c l S3 fun z S4 => Wo (g y z S4) Q else Q (.bl false) S3 := by
  apply propext
  constructor
  · rintro ⟨v, S', h, q⟩
    obtain ⟨⟨x, S1⟩, h1, h⟩ := bnd h
    obtain ⟨⟨y, S2⟩, h2, h⟩ := bnd h
    obtain ⟨⟨r, S3⟩, h3, h⟩ := bnd h
    refine ⟨x, S1, h1, y, S2, h2, r, S3, h3, ?_⟩
    cases r with
    | bl k =>
      cases k with
      | true =>
        obtain ⟨⟨z, S4⟩, h4, h⟩ := bnd h
        exact ⟨true, rfl, z, S4, h4, v, S', h, q⟩
      | false => cases h; exact ⟨false, rfl, q⟩
    | _ => cases h
  · rintro ⟨x, S1, h1, y, S2, h2, r, S3, h3, k, rfl, h⟩
    cases k with
    | true =>
      obtain ⟨z, S4, h4, v, S', h, q⟩ := h
      refine ⟨v, S', ?_, q⟩
      unfold eChain; rw [h1]; show (b l S1).bind _ = _; rw [h2]; show (f x y S2).bind _ = _; rw [h3]; show (c l S3).bind _ = _; rw [h4]; exact h
    | false =>
      refine ⟨_, _, ?_, h⟩
      unfold eChain; rw [h1]; show (b l S1).bind _ = _; rw [h2]; show (f x y S2).bind _ = _; rw [h3]; rfl
theorem ii_int_bool : isI "int" "bool" = false := by decide
theorem wo_isI {U : String} {x : D} {S : Sto} {Q : D → Sto → Prop} : Wo (fIsI U x S) Q = ∃ T, tyD S x = some T ∧ Q (.bl (isI T U)) S := by
  show Wo ((tyD S x).bind fun T => some (.bl (isI T U), S)) Q = _
  rw [wo_bind]; simp only [wo_some]
noncomputable def nD (a : Nat) : D := .int (a : Int)
noncomputable def below (n : Int) : D → Bool
  | .int i => decide (0 ≤ i) && decide (i < n)
  | _ => false
theorem below_any {S : Sto} {d : D} {T : String} (n : Int) (h : tyD S d = some T) : m_is_below [d, .int n] S = some (.bl (below n d), S) := by
  have key : ∀ {U : String}, T = U → isI U "int" = false → below n d = false → m_is_below [d, .int n] S = some (.bl (below n d), S) := fun {U} e1 e2 e3 => by
    subst e1
    have : Wo (m_is_below [d, .int n] S) fun v S' => v = .bl false ∧ S' = S := by
      unfold m_is_below b_is_below
      simp only [wo_run, List.map_cons, List.map_nil, List.length_cons, List.length_nil, Nat.reduceAdd, Nat.reduceSub, List.replicate, List.cons_append, List.nil_append, ws_ret, we_and, we_un, we_var, List.getElem?_cons_zero, ex_some, wo_isI, h]
      refine ⟨_, rfl, ?_⟩
      simp only [e2, ex_bl, Bool.false_eq_true, if_false]
      all_goals first | trivial | exact ⟨(by first | rfl | trivial), (by first | rfl | trivial)⟩
    obtain ⟨v, S', e, rfl, rfl⟩ := this
    rw [e3]; exact e
  cases d with
  | non => cases h; exact key rfl (by decide) rfl
  | str z => cases h; exact key rfl (by decide) rfl
  | tup xs => cases h; exact key rfl (by decide) rfl
  | fn a => cases h
  | ref k =>
    unfold tyD at h
    dsimp only at h
    split at h
    · cases h; exact key rfl (by decide) rfl
    · cases h; exact key rfl (by decide) rfl
    · cases h
  | bl b =>
    cases h
    have e1 : isI "bool" "int" = true := by decide
    have : Wo (m_is_below [.bl b, .int n] S) fun v S' => v = .bl false ∧ S' = S := by
      unfold m_is_below b_is_below
      simp only [wo_run, List.map_cons, List.map_nil, List.length_cons, List.length_nil, Nat.reduceAdd, Nat.reduceSub, List.replicate, List.cons_append, List.nil_append, ws_ret, we_and, we_un, we_not, we_var, List.getElem?_cons_zero, ex_some, wo_isI_bl, isI_same, e1, ex_bl, if_true, Bool.not_true, Bool.false_eq_true, if_false]
      all_goals first | trivial | exact ⟨(by first | rfl | trivial), (by first | rfl | trivial)⟩
    obtain ⟨v, S', e, rfl, rfl⟩ := this
    exact e
  | int i =>
    have : Wo (m_is_below [.int i, .int n] S) fun v S' => v = .bl (decide (0 ≤ i) && decide (i < n)) ∧ S' = S := by
      unfold m_is_below b_is_below
      simp only [wo_run, ws_seq, ws_if, wt_e, we_op, we_un, we_var, we_c, ws_asg, ws_ret, ws_drop, ws_next, ws_break, ws_cont, wg_name, wg_sub, wg_tup, wg_nil, wg_cons, wg_dput, we_call, we_methL, we_methS, wa_cons, wa_nil, wt_and, wt_or, wt_not, we_and, we_or, we_not, we_if, wo_I0, wo_I, wo_plusAI, wo_plusAT, we_slA, wp_none, wp_some, ex_int1, wo_slT, wo_intAB, wo_times, wo_ixT, wo_ixL, wo_ixAT, wo_ixAL, wo_ixAS, wo_lenT, wo_lenL, wo_lenAT, wo_lenAL, wo_lenAS, wo_abs, wo_intB, wo_tup, wo_lst, wo_tupleL, wo_eqI, wo_eqB, wo_eqSt, wo_neS, wo_neB, wo_neI, wo_is, wo_isnot, wo_str, wo_isI_bl, wo_isI_int, wo_isI_str, wo_isI_tup, wo_isI_non, isI_same, List.map_cons, List.map_nil, List.length_cons, List.length_nil, Nat.reduceAdd, Nat.reduceSub, List.replicate, List.cons_append, List.nil_append, List.getElem?_cons_zero, List.getElem?_cons_succ, List.set_cons_zero, List.set_cons_succ, ex_some, ex_some1, ex_bl, ex_int, at3_0, at3_1, at3_2, at2_0, at2_1, lstOf_last, decide_eq_true_eq, wo_isI_int, isI_same, ii_int_bool, we_chain, if_true, Bool.not_false]
      by_cases h0 : 0 ≤ i
      · simp only [h0, decide_true, if_true, Bool.true_and, wo_run, ws_seq, ws_if, wt_e, we_op, we_un, we_var, we_c, ws_asg, ws_ret, ws_drop, ws_next, ws_break, ws_cont, wg_name, wg_sub, wg_tup, wg_nil, wg_cons, wg_dput, we_call, we_methL, we_methS, wa_cons, wa_nil, wt_and, wt_or, wt_not, we_and, we_or, we_not, we_if, wo_I0, wo_I, wo_plusAI, wo_plusAT, we_slA, wp_none, wp_some, ex_int1, wo_slT, wo_intAB, wo_times, wo_ixT, wo_ixL, wo_ixAT, wo_ixAL, wo_ixAS, wo_lenT, wo_lenL, wo_lenAT, wo_lenAL, wo_lenAS, wo_abs, wo_intB, wo_tup, wo_lst, wo_tupleL, wo_eqI, wo_eqB, wo_eqSt, wo_neS, wo_neB, wo_neI, wo_is, wo_isnot, wo_str, wo_isI_bl, wo_isI_int, wo_isI_str, wo_isI_tup, wo_isI_non, isI_same, List.map_cons, List.map_nil, List.length_cons, List.length_nil, Nat.reduceAdd, Nat.reduceSub, List.replicate, List.cons_append, List.nil_append, List.getElem?_cons_zero, List.getElem?_cons_succ, List.set_cons_zero, List.set_cons_succ, ex_some, ex_some1, ex_bl, ex_int, at3_0, at3_1, at3_2, at2_0, at2_1, lstOf_last, decide_eq_true_eq]
        all_goals first | trivial | exact ⟨(by first | rfl | trivial), (by first | rfl | trivial)⟩
      · simp only [h0, decide_false, Bool.false_eq_true, if_false, Bool.false_and]
        all_goals first | trivial | exact ⟨(by first | rfl | trivial), (by first | rfl | trivial)⟩
    obtain ⟨v, S', e, rfl, rfl⟩ := this
    exact e
noncomputable def Ty (S : Sto) (d : D) : Prop := ∃ T, tyD S d = some T
theorem Ty.gr {S S' : Sto} {d : D} (h : Ty S d) (g : Gr S S') : Ty S' d := by
  obtain ⟨T, h⟩ := h
  cases d with
  | ref k =>
    unfold tyD at h
    dsimp only at h
    split at h
    · rename_i e; exact ⟨_, by unfold tyD; dsimp only; rw [g.get e]⟩
    · rename_i e; exact ⟨_, by unfold tyD; dsimp only; rw [g.get e]⟩
    · cases h
  | fn a => cases h
  | non => exact ⟨_, rfl⟩
  | bl b => exact ⟨_, rfl⟩
  | int i => exact ⟨_, rfl⟩
  | str z => exact ⟨_, rfl⟩
  | tup xs => exact ⟨_, rfl⟩
noncomputable def OrdB (n : Nat) : D → Bool
  | .tup ds => decide (ds.length = n) && (ds.all (below n) && decide ((ds.map numD).Nodup))
  | _ => false
theorem ordB_tup (n : Nat) (ds : List D) : OrdB n (.tup ds) = (decide (ds.length = n) && (ds.all (below n) && decide ((ds.map numD).Nodup))) := rfl
noncomputable def Tys (S : Sto) : D → Prop
  | .tup ds => ∀ d ∈ ds, Ty S d
  | d => Ty S d
theorem intsD_below {n : Int} : ∀ {ds : List D}, ds.all (below n) = true → intsD ds = some (ds.map numD)
  | [], _ => rfl
  | d :: ds, h => by
    rw [List.all_cons, Bool.and_eq_true] at h
    have ih := intsD_below h.2
    cases d with
    | int i =>
      have e : D.int i :: ds = (i :: ds.map numD).map D.int := by
        rw [List.map_cons]
        congr 1
        have := h.2
        rw [List.all_eq_true] at this
        rw [List.map_map]
        conv => lhs; rw [← List.map_id ds]
        apply List.map_congr_left
        intro x hx
        have := this x hx
        cases x with
        | int j => rfl
        | _ => cases this
      rw [e, intsD_map]
      rw [← e]; rfl
    | _ => cases h.1
theorem dis_le (ns : List Int) : (dis ns ns.length).length ≤ ns.length := by
  have key : ∀ (l acc : List Int), (l.foldl step_dedup acc).length ≤ acc.length + l.length := by
    intro l
    induction l with
    | nil => intro acc; simp
    | cons x l ih =>
      intro acc
      rw [List.foldl_cons]
      refine Nat.le_trans (ih _) ?_
      unfold step_dedup
      split <;> simp <;> omega
  have e : dis ns ns.length = ns.foldl step_dedup [] := by
    unfold dis firstMet
    congr 1
    apply List.ext_getElem?
    intro i
    rw [List.getElem?_map]
    by_cases hi : i < ns.length
    · rw [List.getElem?_range hi, List.getElem?_eq_getElem hi]; simp [hi]
    · rw [List.getElem?_eq_none (by simpa using hi), List.getElem?_eq_none (by simpa using hi)]; rfl
  rw [e]
  simpa using key ns []
theorem order_any {S : Sto} {x : D} {n : Nat} (h : Tys S x) (hz : ∀ ds, x = .tup ds → ds.length ≤ 100) : Wo (m_is_order [x, .int (n : Int)] S) fun v S' => v = .bl (OrdB n x) ∧ Gr S S' := by
  have big : 1000 ≤ sizeLine := by decide
  have sb : scanBound = 4096 := rfl
  have tt : isI "tuple" "tuple" = true := by decide
  unfold m_is_order b_is_order
  simp only [wo_run, List.map_cons, List.map_nil, List.length_cons, List.length_nil, Nat.reduceAdd, Nat.reduceSub, List.replicate, List.cons_append, List.nil_append, ws_ret, we_call, wa_cons, wa_nil, we_var, List.getElem?_cons_zero, List.getElem?_cons_succ, ex_some]
  unfold m_are_unlike_below b_are_unlike_below
  simp only [wo_run, List.map_cons, List.map_nil, List.length_cons, List.length_nil, Nat.reduceAdd, Nat.reduceSub, List.replicate, List.cons_append, List.nil_append]
  have no : ∀ {T : String}, tyD S x = some T → isI T "tuple" = false → OrdB n x = false → Ws (sSeq (sIf (tOr3 (tNot3 (tE (eUn (fIsI "tuple") (eVar 0)))) (tE (eOp dNe (eCall fLenA (aCons (eVar 0) aNil)) (eVar 1)))) (sRet (eC (.bl false))) sNext) (sRet (eAnd3 (eCall fAll (aCons (eComp (iVal (eVar 0)) [none, some 2] (gName3 0) tTrue (eCall m_is_below (aCons (eVar 0) (aCons (eVar 1) aNil)))) aNil)) (eOp dEq (eCall fLenI (aCons (eCall fSetI (aCons (eVar 0) aNil)) aNil)) (eVar 1))))) [some x, some (.int (n : Int)), some (.int (n : Int))] S fun f _ S1 => match f with | .rt d => d = .bl (OrdB n x) ∧ Gr S S1 | .nx => D.non = .bl (OrdB n x) ∧ Gr S S1 | _ => False := fun {T} h1 h2 h3 => by
    simp only [ws_seq, ws_if, wt_or, wt_not, wt_e, we_un, we_var, List.getElem?_cons_zero, ex_some, wo_isI, h1]
    refine ⟨_, rfl, ?_⟩
    simp only [h2, ex_bl, Bool.not_false, if_true, ws_ret, we_c, h3]
    first | exact ⟨(by first | rfl | trivial), Gr.refl _⟩ | exact Gr.refl _
  cases x with
  | non => exact no rfl (by decide) rfl
  | bl b => exact no rfl (by decide) rfl
  | int i => exact no rfl (by decide) rfl
  | str z => exact no rfl (by decide) rfl
  | fn a => obtain ⟨T, e⟩ := h; cases e
  | ref k =>
    obtain ⟨T, e⟩ := h
    have e0 := e
    unfold tyD at e
    dsimp only at e
    split at e
    · cases e; exact no e0 (by decide) rfl
    · cases e; exact no e0 (by decide) rfl
    · cases e
  | tup ds =>
    have hz := hz ds rfl
    have h : ∀ d ∈ ds, Ty S d := h
    refine ws_seq ▸ ?_
    simp only [ws_if, wt_or, wt_not, wt_e, we_un, we_op, we_call, wa_cons, wa_nil, we_var, List.getElem?_cons_zero, List.getElem?_cons_succ, ex_some, wo_isI_tup, tt, ex_bl, Bool.not_true, Bool.false_eq_true, if_false, wo_lenAT, wo_neI]
    by_cases hl : ds.length = n
    · have hl' : (ds.length : Int) = (n : Int) := by omega
      simp only [hl', decide_true, Bool.not_true, Bool.false_eq_true, if_false, ws_next, ws_ret, we_and, we_call, wa_cons, wa_nil]
      refine we_compM ds (fun d => .bl (below (n : Int) d)) (Gr S) (fun l => ∃ y0, l = [y0, some (.int (n : Int))]) (valT_im rfl) (Gr.refl _) ⟨_, rfl⟩ (fun i S _ => rfl) (by omega) ?_ ?_
      · rintro x l S2 hx ⟨y0, rfl⟩ g2
        simp only [wg_name, List.set_cons_zero]
        refine ⟨g2, ⟨_, rfl⟩, ?_⟩
        simp only [we_call, wa_cons, wa_nil, we_var, List.getElem?_cons_zero, List.getElem?_cons_succ, ex_some]
        obtain ⟨T, hT⟩ := (h x hx).gr g2
        rw [below_any (n : Int) hT, wo_some]
        exact ⟨rfl, g2⟩
      · intro S2 g2
        have ea : (ds.map fun d => D.bl (below (n : Int) d)).all isBlD = true := by rw [List.all_map]; exact List.all_eq_true.mpr fun _ _ => rfl
        have eb : (ds.map fun d => D.bl (below (n : Int) d)).all isT = ds.all (below (n : Int)) := by
          rw [List.all_map]
          apply congrArg (fun f => ds.all f)
          funext d
          show isT (.bl (below (n : Int) d)) = _
          cases below (n : Int) d <;> rfl
        simp only [wo_allL, lstOf_last, ex_some1, ea, eb, true_and, ex_bl]
        have g3 := g2.push (.lst (ds.map fun d => D.bl (below (n : Int) d)))
        revert g3
        generalize S2 ++ [Ob.lst (ds.map fun d => D.bl (below (n : Int) d))] = S3
        intro g3
        cases hb : ds.all (below (n : Int)) with
        | false =>
          have e : OrdB n (.tup ds) = false := by rw [ordB_tup, hb]; simp
          simp only [Bool.false_eq_true, if_false, e]
          first | exact ⟨(by first | rfl | trivial), g3⟩ | exact g3
        | true =>
          simp only [if_true, we_op, we_call, wa_cons, wa_nil, we_var, List.getElem?_cons_zero, List.getElem?_cons_succ, ex_some]
          have hi := intsD_below hb
          have hln : (ds.map numD).length = n := by rw [List.length_map]; exact hl
          have hdl : (dis (ds.map numD) (ds.map numD).length).length ≤ n := by
            have := dis_le (ds.map numD)
            omega
          have es : fSetI [.tup ds] S3 = some (.ref S3.length, S3 ++ [.iset (fun k => (dis (ds.map numD) (ds.map numD).length).any (· == k)) (dis (ds.map numD) (ds.map numD).length).length]) := by
            show (intsD ds).bind _ = _
            rw [hi]
            simp only [Option.bind_some]
            rw [if_pos (by omega)]
          rw [es, wo_some]
          have el : ∀ f : Int → Bool, fLenI [.ref S3.length] (S3 ++ [.iset f (dis (ds.map numD) (ds.map numD).length).length]) = some (.int ((dis (ds.map numD) (ds.map numD).length).length : Int), S3 ++ [.iset f (dis (ds.map numD) (ds.map numD).length).length]) := fun f => by
            show (match (S3 ++ [Ob.iset f (dis (ds.map numD) (ds.map numD).length).length])[S3.length]? with | some (.iset _ k) => if k < scanBound then some (D.int k, _) else none | _ => none) = _
            rw [get_self]
            show (if _ < scanBound then _ else _) = _
            rw [if_pos (by omega)]
          rw [el, wo_some]
          have e : OrdB n (.tup ds) = decide (((dis (ds.map numD) (ds.map numD).length).length : Int) = (n : Int)) := by
            rw [ordB_tup, hb, hl, decide_eq_true rfl, Bool.true_and, Bool.true_and]
            have d := dis_len (ds.map numD)
            rw [hln] at d ⊢
            rw [decide_eq_decide]
            rw [← d]
            omega
          simp only [wo_eqI, e]
          first | exact ⟨(by first | rfl | trivial), g3.push _⟩ | exact g3.push _
    · have hl' : ¬ (ds.length : Int) = (n : Int) := by omega
      have e : OrdB n (.tup ds) = false := by rw [ordB_tup]; simp [hl]
      simp only [hl', decide_false, Bool.not_false, if_true, ws_ret, we_c, e]
      first | exact ⟨(by first | rfl | trivial), Gr.refl _⟩ | exact Gr.refl _
theorem ex_ok {α : Type} {x : α} : (∃ y, some x = some y) = True := by simp
theorem recvL_of {S : Sto} {n : Nat} {xs : List D} (h : S[n]? = some (.lst xs)) : recvL (.ref n) S = some xs := lst_of h
theorem wo_popAt {n : Nat} {i : Int} {S : Sto} {xs : List D} (h : S[n]? = some (.lst xs)) (h0 : 0 ≤ i) (h1 : i < xs.length) (h2 : xs.length < 1000000) : ∃ y, xs[i.toNat]? = some y ∧ ∀ Q : D → Sto → Prop, Wo (mPopAt (.ref n) [.int i] S) Q = Q y (S.set n (.lst (xs.eraseIdx i.toNat))) := by
  have hl : i.toNat < xs.length := by omega
  refine ⟨xs[i.toNat], List.getElem?_eq_getElem hl, fun Q => ?_⟩
  have e : PySem.seqIndex? i xs.length = some i.toNat := by
    unfold PySem.seqIndex?
    first
      | (simp; omega)
      | (rw [if_pos (by omega)]; try rw [if_pos (by omega)])
  have : mPopAt (.ref n) [.int i] S = some (xs[i.toNat], S.set n (.lst (xs.eraseIdx i.toNat))) := by
    unfold mPopAt
    dsimp only
    rw [h]
    dsimp only
    rw [e]
    show ((xs[i.toNat]?).bind _) = _
    rw [List.getElem?_eq_getElem hl]
    show (if _ then _ else _) = _
    rw [if_pos (by omega)]
  rw [this]; exact wo_some
theorem rngD_map (n : Nat) : rngD 0 n = (List.range n).map nD := by
  unfold rngD nD
  apply List.map_congr_left
  intro i _
  show D.int (0 + (i : Int)) = D.int (i : Int)
  rw [Int.zero_add]
theorem erase_perm : ∀ (l : List Nat) (i : Nat) (h : i < l.length), (l[i] :: l.eraseIdx i).Perm l
  | [], i, h => absurd h (Nat.not_lt_zero _)
  | x :: l, 0, _ => .refl _
  | x :: l, i + 1, h => by
    have ih := erase_perm l i (by simpa using h)
    show (l[i]'(by simpa using h) :: x :: l.eraseIdx i).Perm (x :: l)
    exact (List.Perm.swap ..).trans (ih.cons x)
theorem erase_map {α β : Type} (f : α → β) : ∀ (l : List α) (i : Nat), (l.map f).eraseIdx i = (l.eraseIdx i).map f
  | [], _ => rfl
  | x :: l, 0 => rfl
  | x :: l, i + 1 => by
    show f x :: (l.map f).eraseIdx i = f x :: (l.eraseIdx i).map f
    rw [erase_map f l i]
theorem at_nD {os : List Nat} {d : Nat} (h : d < os.length) : L2.atI (os.map nD) (d : Int) = some (nD os[d]) := by
  have : L2.ixN (os.map nD).length (d : Int) = some d := by unfold L2.ixN; simp; omega
  unfold L2.atI
  rw [this]
  show (os.map nD)[d]? = _
  rw [List.getElem?_map, List.getElem?_eq_getElem h]; rfl
theorem order_ok (n many first : Nat) (S : Sto) (h : PQ n S) (h1 : 1 ≤ many) (h2 : many ≤ 100) (hf : first ≤ many) : Wo (m_law_order [.ref n, .int (many : Int), .int (first : Int)] S) fun v S' => (∃ os : List Nat, v = .tup (os.map nD) ∧ os.Perm (List.range many)) ∧ PQ n S' ∧ Fn n S S' := by
  have big : 1000 ≤ sizeLine := by decide
  have sz0 : 0 ≤ sizeLine := by decide
  have sz2 : 2 ≤ sizeLine := by decide
  unfold m_law_order b_law_order
  simp only [wo_run, List.map_cons, List.map_nil, List.length_cons, List.length_nil, Nat.reduceAdd, Nat.reduceSub, List.replicate, List.cons_append, List.nil_append]
  refine ws_cut (fun l S' => PQ n S' ∧ Fn n S S' ∧ ∃ way : Nat, l = [some (.ref n), some (.int (many : Int)), some (.int (first : Int)), some (.int (way : Int)), none, none, none, none]) ?_ ?_
  · simp only [ws_asg, we_call, wa_cons, wa_nil, we_var, we_c, List.getElem?_cons_zero, List.getElem?_cons_succ, ex_some]
    refine (draw_ok n 3 S h (by decide) (by decide)).mono ?_
    rintro x S1 ⟨⟨d, rfl, hd⟩, p, f⟩
    simp only [wg_name, List.set_cons_zero, List.set_cons_succ]
    first | exact ⟨(by first | rfl | trivial), p, f, d, rfl⟩ | exact ⟨p, f, d, rfl⟩
  rintro l S1 ⟨p1, f1, way, rfl⟩
  refine ws_cut (fun l S' => PQ n S' ∧ Fn n S S' ∧ ∃ (r : Nat) (os : List Nat), r ≠ n ∧ S.length ≤ r ∧ os.Perm (List.range many) ∧ S'[r]? = some (.lst (os.map nD)) ∧ l = [some (.ref n), some (.int (many : Int)), some (.int (first : Int)), some (.int (way : Int)), some (.ref r), none, none, none]) ?_ ?_
  · rw [ws_asg]
    refine ⟨.ref S1.length, S1 ++ [.lst (rngD 0 many)], ?_, ?_⟩
    · unfold eListR
      have hr0 : ∀ y : Int, 0 ≤ y ∧ y < 1000 → rng1 (aCons (eVar 1) aNil) [some (.ref n), some (.int y), some (.int (first : Int)), some (.int (way : Int)), none, none, none, none] S1 = some ((0, y.toNat), S1) := fun y hy => by
        unfold rng1
        show (if _ then _ else _) = _
        rw [if_pos (by omega)]
      rw [hr0 (many : Int) (by omega), Int.toNat_natCast]
      show (if many ≤ sizeLine then _ else _) = _
      rw [if_pos (by omega)]
    · rw [rngD_map]
      simp only [wg_name, List.set_cons_zero, List.set_cons_succ]
      first | exact ⟨(by first | rfl | trivial), p1.gr ⟨_, rfl⟩, f1.trans (Fn.gr ⟨_, rfl⟩), S1.length, _, Ne.symm (Nat.ne_of_lt p1.lt), f1.len p1, .refl _, get_self _ _, rfl⟩ | exact ⟨p1.gr ⟨_, rfl⟩, f1.trans (Fn.gr ⟨_, rfl⟩), S1.length, _, Ne.symm (Nat.ne_of_lt p1.lt), f1.len p1, .refl _, get_self _ _, rfl⟩
  rintro l S2 ⟨p2, f2, r, os, hrn, hr, pm, h2r, rfl⟩
  have hlen : os.length = many := by have := pm.length_eq; rwa [List.length_range] at this
  refine ws_cut (fun l S' => PQ n S' ∧ Fn n S S' ∧ ∃ (os : List Nat) (y5 y6 : Option D), os.Perm (List.range many) ∧ S'[r]? = some (.lst (os.map nD)) ∧ l = [some (.ref n), some (.int (many : Int)), some (.int (first : Int)), some (.int (way : Int)), some (.ref r), y5, y6, none]) ?_ ?_
  · rw [ws_if]
    simp only [wt_and, wt_e, we_op, we_var, we_c, List.getElem?_cons_zero, List.getElem?_cons_succ, ex_some, wo_eqI, ex_bl, wo_I0]
    have skip : PQ n S2 ∧ Fn n S S2 ∧ ∃ (os : List Nat) (y5 y6 : Option D), os.Perm (List.range many) ∧ S2[r]? = some (.lst (os.map nD)) ∧ [some (D.ref n), some (.int (many : Int)), some (.int (first : Int)), some (.int (way : Int)), some (.ref r), none, none, none] = [some (.ref n), some (.int (many : Int)), some (.int (first : Int)), some (.int (way : Int)), some (.ref r), y5, y6, none] := ⟨p2, f2, os, none, none, pm, h2r, rfl⟩
    by_cases hw : (way : Int) = 0
    · simp only [hw, decide_true, if_true]
      by_cases hm : (first : Int) < (many : Int)
      · simp only [hm, decide_true, if_true]
        have hsub : (many : Int) - (first : Int) = ((many - first : Nat) : Int) := by omega
        have pick : ∀ {T : Sto} {Q : D → Sto → Prop}, PQ n T → (∀ (d : Nat) (T' : Sto), d < many → PQ n T' → Fn n T T' → Q (.int (d : Int)) T') → Wo (m_law_draw [.ref n, .int ((many : Int) - (first : Int))] T) (fun y T' => Wo (dPlusA (.int (first : Int)) y T') Q) := fun {T Q} pT hq => by
          refine (draw_ok n ((many : Int) - (first : Int)) T pT (by omega) (by omega)).mono ?_
          rintro y T' ⟨⟨d, rfl, hd⟩, p, f⟩
          have e : (first : Int) + (d : Int) = ((first + d : Nat) : Int) := by push_cast; rfl
          simp only [wo_plusAI, e]
          exact hq (first + d) T' (by omega) p f
        refine ws_cut (fun l S' => PQ n S' ∧ Fn n S2 S' ∧ ∃ one : Nat, one < many ∧ l = [some (.ref n), some (.int (many : Int)), some (.int (first : Int)), some (.int 0), some (.ref r), some (.int (one : Int)), none, none]) ?_ ?_
        · simp only [ws_asg, we_op, we_call, wa_cons, wa_nil, we_var, List.getElem?_cons_zero, List.getElem?_cons_succ, ex_some, wo_I0]
          refine pick p2 fun d T' hd p f => ?_
          simp only [wg_name, List.set_cons_zero, List.set_cons_succ]
          first | exact ⟨(by first | rfl | trivial), p, f, d, hd, by first | rfl | rw [hw]⟩ | exact ⟨p, f, d, hd, by first | rfl | rw [hw]⟩
        rintro l S3 ⟨p3, f3, one, ho, rfl⟩
        refine ws_cut (fun l S' => PQ n S' ∧ Fn n S2 S' ∧ ∃ oth : Nat, oth < many ∧ l = [some (.ref n), some (.int (many : Int)), some (.int (first : Int)), some (.int 0), some (.ref r), some (.int (one : Int)), some (.int (oth : Int)), none]) ?_ ?_
        · simp only [ws_asg, we_op, we_call, wa_cons, wa_nil, we_var, List.getElem?_cons_zero, List.getElem?_cons_succ, ex_some, wo_I0]
          refine pick p3 fun d T' hd p f => ?_
          simp only [wg_name, List.set_cons_zero, List.set_cons_succ]
          first | exact ⟨(by first | rfl | trivial), p, f3.trans f, d, hd, rfl⟩ | exact ⟨p, f3.trans f, d, hd, rfl⟩
        rintro l S4 ⟨p4, f4, oth, hot, rfl⟩
        have h4 := f4 r _ hrn h2r
        have e1 := at_nD (os := os) (d := one) (by omega)
        have e2 := at_nD (os := os) (d := oth) (by omega)
        simp only [ws_asg, we_op, we_call, wa_cons, wa_nil, we_var, List.getElem?_cons_zero, List.getElem?_cons_succ, ex_some, wo_ixAL, lst_of h4, ex_some1, e1, e2, wo_tup, List.length_cons, List.length_nil, Nat.reduceAdd, sz2, true_and, wg_tup, wg_cons, wg_sub, wg_nil]
        have k1 := set_at (v := nD os[oth]) h4 (show one < (os.map nD).length by rw [List.length_map]; omega)
        refine ⟨_, k1, ?_⟩
        have h5 := get_set (o := .lst ((os.map nD).set one (nD os[oth]))) h4
        have k2 := set_at (v := nD os[one]) h5 (show oth < ((os.map nD).set one (nD os[oth])).length by rw [List.length_set, List.length_map]; omega)
        refine ⟨_, k2, ?_⟩
        refine ⟨(p4.set hrn).set hrn, ((f2.trans f4).set' hr).set' hr, (os.set one os[oth]).set oth os[one], _, _, (List.set_set_perm (i := one) (j := oth) (by omega) (by omega)).trans pm, ?_, by first | rfl | rw [hw]⟩
        rw [get_set h5, List.map_set, List.map_set]
      · simp only [hm, decide_false, Bool.false_eq_true, if_false, ws_next]
        first | exact ⟨(by first | rfl | trivial), skip⟩ | exact skip | (rw [hw] at skip; exact ⟨(by first | rfl | trivial), skip⟩) | (rw [hw] at skip; exact skip)
    · simp only [hw, decide_false, Bool.false_eq_true, if_false, ws_next]
      first | exact ⟨(by first | rfl | trivial), skip⟩ | exact skip
  rintro l S3 ⟨p3, f3, os, y5, y6, pm, h3r, rfl⟩
  have hlen : os.length = many := by have := pm.length_eq; rwa [List.length_range] at this
  refine ws_cut (fun l S' => PQ n S' ∧ Fn n S S' ∧ ∃ (q : Nat) (os : List Nat) (y7 : Option D), os.Perm (List.range many) ∧ S'[q]? = some (.lst (os.map nD)) ∧ l = [some (.ref n), some (.int (many : Int)), some (.int (first : Int)), some (.int (way : Int)), some (.ref q), y5, y6, y7]) ?_ ?_
  · rw [ws_if]
    simp only [wt_e, we_op, we_var, we_c, List.getElem?_cons_zero, List.getElem?_cons_succ, ex_some, wo_eqI, ex_bl]
    by_cases hw : (way : Int) = 1
    · simp only [hw, decide_true, if_true]
      have l3 := f3.len p3
      refine ws_det (l' := [some (.ref n), some (.int (many : Int)), some (.int (first : Int)), some (.int 1), some (.ref r), y5, y6, some (.ref S3.length)]) (S' := S3 ++ [.lst ((os.drop first).map nD)]) ?_ ?_
      · simp only [ws_asg, we_slA, wp_none, wp_some, we_var, List.getElem?_cons_zero, List.getElem?_cons_succ, ex_some, ex_int1, wo_slL (lst_of h3r), cutD_from, wg_name, List.set_cons_zero, List.set_cons_succ, List.map_drop]
        first | exact ⟨(by first | rfl | trivial), (by first | rfl | trivial), (by first | rfl | trivial)⟩ | trivial
      have h4r : (S3 ++ [.lst ((os.drop first).map nD)])[r]? = some (.lst (os.map nD)) := Gr.get ⟨_, rfl⟩ h3r
      refine ws_det (l' := [some (.ref n), some (.int (many : Int)), some (.int (first : Int)), some (.int 1), some (.ref (S3.length + 1)), y5, y6, some (.ref S3.length)]) (S' := S3 ++ [.lst ((os.drop first).map nD)] ++ [.lst ((os.take first).map nD)]) ?_ ?_
      · simp only [ws_asg, we_slA, wp_none, wp_some, we_var, List.getElem?_cons_zero, List.getElem?_cons_succ, ex_some, ex_int1, wo_slL (lst_of h4r), cutD_to, wg_name, List.set_cons_zero, List.set_cons_succ, List.map_take, List.length_append, List.length_cons, List.length_nil, Nat.reduceAdd, Nat.zero_add]
        first | exact ⟨(by first | rfl | trivial), (by first | rfl | trivial), (by first | rfl | trivial)⟩ | trivial
      have nl := p3.lt
      refine ws_whl (fun m l S' => PQ n S' ∧ Fn n S S' ∧ ∃ as ls : List Nat, ls.length = m ∧ (as ++ ls).Perm (List.range many) ∧ S'[S3.length + 1]? = some (.lst (as.map nD)) ∧ S'[S3.length]? = some (.lst (ls.map nD)) ∧ l = [some (.ref n), some (.int (many : Int)), some (.int (first : Int)), some (.int 1), some (.ref (S3.length + 1)), y5, y6, some (.ref S3.length)]) (fun _ _ => False)
        (fun l S' => PQ n S' ∧ Fn n S S' ∧ ∃ as : List Nat, as.Perm (List.range many) ∧ S'[S3.length + 1]? = some (.lst (as.map nD)) ∧ l = [some (.ref n), some (.int (many : Int)), some (.int (first : Int)), some (.int 1), some (.ref (S3.length + 1)), y5, y6, some (.ref S3.length)]) (os.drop first).length (by rw [List.length_drop]; omega)
        ⟨(p3.gr ⟨_, rfl⟩).gr ⟨_, rfl⟩, (f3.trans (Fn.gr ⟨_, rfl⟩)).trans (Fn.gr ⟨_, rfl⟩), os.take first, os.drop first, rfl, by rw [List.take_append_drop]; exact pm, ?_, ?_, rfl⟩ ?_ ?_ (fun d l S h => h.elim)
      · have := get_self (S3 ++ [.lst ((os.drop first).map nD)]) (.lst ((os.take first).map nD))
        rwa [List.length_append] at this
      · exact Gr.get ⟨_, rfl⟩ (get_self S3 _)
      · rintro m l T ⟨pT, fT, as, ls, hm, pmT, ha, hl, rfl⟩
        have nT := pT.lt
        have hlq := (List.getElem?_eq_some_iff.mp hl).1
        have hal := (List.getElem?_eq_some_iff.mp ha).1
        simp only [wt_e, we_op, we_call, wa_nil, we_var, List.getElem?_cons_zero, List.getElem?_cons_succ, ex_some, wo_lst, List.length_nil, sz0, true_and]
        have g1 : Gr T (T ++ [.lst []]) := ⟨_, rfl⟩
        have ed : dNeNil (.ref S3.length) (.ref T.length) (T ++ [.lst []]) = some (.bl (!(ls.map nD).isEmpty), T ++ [.lst []]) := by
          unfold dNeNil
          dsimp only
          rw [g1.get hl, get_self]
        rw [ed, wo_some]
        simp only [ex_bl]
        have p5 := pT.gr g1
        have f5 := fT.trans (Fn.gr g1)
        have ha5 := g1.get ha
        have hl5 := g1.get hl
        cases ls with
        | nil =>
          simp only [List.map_nil, List.isEmpty_nil, Bool.not_true, Bool.false_eq_true, if_false]
          rw [List.append_nil] at pmT
          exact ⟨p5, f5, as, pmT, ha5, (by first | rfl | trivial)⟩
        | cons x ls =>
          simp only [List.map_cons, List.isEmpty_cons, Bool.not_false, if_true]
          generalize T ++ [Ob.lst []] = T5 at p5 f5 ha5 hl5
          rw [ws_drop, we_methL]
          simp only [we_var, List.getElem?_cons_zero, List.getElem?_cons_succ, ex_some, recvL_of ha5, ex_ok, true_and, wa_cons, wa_nil, we_methL, recvL_of hl5, we_call, wo_lenAL, lst_of hl5, ex_some1, List.length_map, List.length_cons]
          have hlm : as.length + (ls.length + 1) = many := by
            have := pmT.length_eq
            rw [List.length_append, List.length_range, List.length_cons] at this; exact this
          refine (draw_ok n ((ls.length + 1 : Nat) : Int) T5 p5 (by omega) (by omega)).mono ?_
          rintro v T6 ⟨⟨d, rfl, hd⟩, p6, f6⟩
          have n3 : S3.length ≠ n := by omega
          have n4 : S3.length + 1 ≠ n := by omega
          have hl6 := f6 _ _ n3 hl5
          have ha6 := f6 _ _ n4 ha5
          have hl6' : T6[S3.length]? = some (.lst ((x :: ls).map nD)) := hl6
          obtain ⟨y, hy, hq⟩ := wo_popAt (i := (d : Int)) hl6' (by omega) (by rw [List.length_map, List.length_cons]; omega) (by rw [List.length_map, List.length_cons]; omega)
          rw [hq]
          have hdl : d < (x :: ls).length := by rw [List.length_cons]; omega
          rw [Int.toNat_natCast, List.getElem?_map, List.getElem?_eq_getElem hdl] at hy
          have hy : nD (x :: ls)[d] = y := Option.some.inj hy
          have ha7 : (T6.set S3.length (.lst (((x :: ls).map nD).eraseIdx (d : Int).toNat)))[S3.length + 1]? = some (.lst (as.map nD)) := by
            rw [List.getElem?_set_ne (by omega)]; exact ha6
          rw [wo_append]
          refine ⟨_, ha7, by rw [List.length_map]; omega, .inl ⟨(by first | exact .inl rfl | exact .inl trivial | trivial), ls.length, by rw [← hm, List.length_cons]; omega, (p6.set n3).set n4, ((f5.trans f6).set' l3).set' (by omega), as ++ [(x :: ls)[d]], (x :: ls).eraseIdx d, ?_, ?_, ?_, ?_, (by first | rfl | trivial)⟩⟩
          · rw [List.length_eraseIdx, if_pos hdl, List.length_cons]; omega
          · rw [List.append_assoc]
            exact List.Perm.trans (List.Perm.append_left as (erase_perm (x :: ls) d hdl)) pmT
          · rw [get_set ha7, ← hy, List.map_append]; rfl
          · rw [List.getElem?_set_ne (by omega), get_set hl6', Int.toNat_natCast, erase_map]
      · rintro l' S' ⟨p, f, as, pa, ha, rfl⟩
        first | exact ⟨(by first | rfl | trivial), p, f, _, as, _, pa, ha, by first | rfl | rw [hw]⟩ | exact ⟨p, f, _, as, _, pa, ha, by first | rfl | rw [hw]⟩
    · simp only [hw, decide_false, Bool.false_eq_true, if_false, ws_next]
      first | exact ⟨(by first | rfl | trivial), p3, f3, r, os, none, pm, h3r, rfl⟩ | exact ⟨p3, f3, r, os, none, pm, h3r, rfl⟩
  rintro l S4 ⟨p4, f4, q, os, y7, pm, h4q, rfl⟩
  simp only [ws_ret, we_call, wa_cons, wa_nil, we_var, List.getElem?_cons_zero, List.getElem?_cons_succ, ex_some, wo_tupleL, lst_of h4q, ex_some1]
  exact ⟨⟨os, rfl, pm⟩, p4, f4⟩
noncomputable def Or (n : Nat) (os : List Nat) : Prop := os.Perm (List.range n)
noncomputable def inv (os : List Nat) : List Nat := (List.range os.length).map fun k => os.idxOf k
section
variable {n : Nat} {os : List Nat}
theorem Or.len (h : Or n os) : os.length = n := by have := h.length_eq; rwa [List.length_range] at this
theorem Or.nd (h : Or n os) : os.Nodup := h.nodup_iff.mpr List.nodup_range
theorem Or.lt (h : Or n os) {k : Nat} (hk : k ∈ os) : k < n := List.mem_range.mp (h.mem_iff.mp hk)
theorem Or.mem (h : Or n os) {k : Nat} (hk : k < n) : k ∈ os := h.mem_iff.mpr (List.mem_range.mpr hk)
theorem Or.idx (h : Or n os) {i k : Nat} (e : os[i]? = some k) : os.idxOf k = i := by
  obtain ⟨hi, rfl⟩ := List.getElem?_eq_some_iff.mp e
  exact h.nd.idxOf_getElem i hi
theorem Or.at_idx (h : Or n os) {k : Nat} (hk : k < n) : os[os.idxOf k]? = some k := by
  have hl := List.idxOf_lt_length_of_mem (h.mem hk)
  rw [List.getElem?_eq_getElem hl, List.getElem_idxOf]
theorem inv_len : (inv os).length = os.length := by unfold inv; simp
theorem Or.inv (h : Or n os) : Or n (M.inv os) := by
  have h1 := h.map os.idxOf
  have e : os.map os.idxOf = List.range n := by
    apply List.ext_getElem?
    intro i
    rw [List.getElem?_map]
    cases q : os[i]? with
    | none =>
      rw [List.getElem?_eq_none_iff] at q
      rw [List.getElem?_eq_none (by rw [List.length_range, ← h.len]; exact q)]; rfl
    | some k =>
      have hi := (List.getElem?_eq_some_iff.mp q).1
      rw [List.getElem?_range (by rw [← h.len]; exact hi)]
      show some (os.idxOf k) = _
      rw [h.idx q]
  rw [e] at h1
  unfold Or M.inv
  rw [h.len]
  exact h1.symm
theorem inv_get (h : Or n os) {k : Nat} (hk : k < n) : (inv os)[k]? = some (os.idxOf k) := by
  unfold inv
  rw [List.getElem?_map, List.getElem?_range (by rw [h.len]; exact hk)]; rfl
theorem inv_idx (h : Or n os) {i k : Nat} (e : os[i]? = some k) : (inv os).idxOf i = k := by
  have hk := h.lt (List.mem_of_getElem? e)
  refine h.inv.idx ?_
  rw [inv_get h hk, h.idx e]
end
theorem num_nD (os : List Nat) : (os.map nD).map numD = os.map fun (k : Nat) => (k : Int) := by rw [List.map_map]; rfl
theorem ord_int {n : Nat} {os : List Nat} (h : Or n os) : IsOrd (os.map fun (k : Nat) => (k : Int)) := by
  unfold IsOrd
  rw [List.length_map, h.len]
  exact h.map _
theorem plc_int {n : Nat} {os : List Nat} (h : Or n os) : (plc (os.map fun (k : Nat) => (k : Int))).map D.int = (inv os).map nD := by
  unfold plc inv
  rw [List.map_map, List.map_map, List.length_map]
  apply List.map_congr_left
  intro k hk
  rw [List.mem_range, h.len] at hk
  show D.int ((os.map fun (k : Nat) => (k : Int)).idxOf (k : Int) : Nat) = nD (os.idxOf k)
  have : (os.map fun (k : Nat) => (k : Int)).idxOf (k : Int) = os.idxOf k := by
    refine idx_nd (ord_int h).nodup ?_
    rw [List.getElem?_map, h.at_idx hk]; rfl
  rw [this]; rfl
theorem places_ok {n : Nat} {os : List Nat} {S : Sto} (h : Or n os) (hn : n < 64) (hS : S[1]? = some (.tab "places")) : m_places [.tup (os.map nD)] S = some (.ref S.length, S ++ [.lst ((inv os).map nD)]) := by
  have : Wo (m_places [.tup (os.map nD)] S) fun v S' => v = .ref S.length ∧ S' = S ++ [.lst ((inv os).map nD)] := by
    unfold m_places b_places
    simp only [wo_run, List.map_cons, List.map_nil, List.length_cons, List.length_nil, Nat.reduceAdd, Nat.reduceSub, List.replicate, List.cons_append, List.nil_append, ws_ret]
    refine ⟨.ref S.length, S ++ [.lst ((inv os).map nD)], ?_, ?_⟩
    · unfold eSortK
      have e1 : aCons (eCall fLenA (aCons (eVar 0) aNil)) aNil [some (.tup (os.map nD))] S = some ([.int ((os.map nD).length : Int)], S) := rfl
      rw [e1]
      simp only [Option.bind_some, List.getElem?_cons_zero, hS]
      rw [if_pos ⟨rfl, rfl, by rw [num_nD, List.map_map]; rfl, by rw [num_nD]; exact ord_int h, by rw [List.length_map, h.len]; exact hn⟩, num_nD, plc_int h]
    · exact ⟨rfl, rfl⟩
  obtain ⟨v, S', e, rfl, rfl⟩ := this
  exact e
noncomputable def nm (os : List Nat) (g : Option Nat) : Option Nat := g.bind fun k => os[k]?
theorem nm_lt {n : Nat} {os : List Nat} (h : Or n os) {g : Option Nat} {k : Nat} (e : nm os g = some k) : k < n := by
  cases g with
  | none => cases e
  | some j => exact h.lt (List.mem_of_getElem? e)
theorem ixA_nD {os : List Nat} {k : Nat} {S : Sto} {Q : D → Sto → Prop} (h : k < os.length) : Wo (dIxA (.tup (os.map nD)) (.int (k : Int)) S) Q = Q (nD os[k]) S := by
  rw [wo_ixAT, at_nD h]
  simp only [ex_some1]
theorem name_ok {os : List Nat} {g : Option Nat} {S : Sto} (h : ∀ k, g = some k → k < os.length) : m_name_of [.tup (os.map nD), oD g] S = some (oD (nm os g), S) := by
  have : Wo (m_name_of [.tup (os.map nD), oD g] S) fun v S' => v = oD (nm os g) ∧ S' = S := by
    unfold m_name_of b_name_of
    cases g with
    | none =>
      simp only [wo_run, List.map_cons, List.map_nil, List.length_cons, List.length_nil, Nat.reduceAdd, Nat.reduceSub, List.replicate, List.cons_append, List.nil_append, ws_ret, we_if, wt_e, we_op, we_var, we_c, List.getElem?_cons_zero, List.getElem?_cons_succ, ex_some, oD, wo_is, isNon, ex_bl, if_true]
      all_goals first | trivial | exact ⟨rfl, rfl⟩ | exact ⟨(by first | rfl | trivial), (by first | rfl | trivial)⟩
    | some k =>
      have hk := h k rfl
      have e : nm os (some k) = some os[k] := List.getElem?_eq_getElem hk
      simp only [wo_run, List.map_cons, List.map_nil, List.length_cons, List.length_nil, Nat.reduceAdd, Nat.reduceSub, List.replicate, List.cons_append, List.nil_append, ws_ret, we_if, wt_e, we_op, we_var, we_c, List.getElem?_cons_zero, List.getElem?_cons_succ, ex_some, oD, wo_is, isNon, ex_bl, Bool.false_eq_true, if_false, ixA_nD hk, e]
      all_goals first | trivial | exact ⟨rfl, rfl⟩ | exact ⟨(by first | rfl | trivial), (by first | rfl | trivial)⟩
  obtain ⟨v, S', e, rfl, rfl⟩ := this
  exact e
theorem lname_ok {os : List Nat} {g : Option Nat} {S : Sto} (h : ∀ k, g = some k → k < os.length) : m_law_name [.tup (os.map nD), oD g] S = some (oD (nm os g), S) := by
  have : Wo (m_law_name [.tup (os.map nD), oD g] S) fun v S' => v = oD (nm os g) ∧ S' = S := by
    unfold m_law_name b_law_name
    cases g with
    | none =>
      simp only [wo_run, List.map_cons, List.map_nil, List.length_cons, List.length_nil, Nat.reduceAdd, Nat.reduceSub, List.replicate, List.cons_append, List.nil_append, ws_seq, ws_if, ws_ret, ws_next, wt_e, we_op, we_var, we_c, List.getElem?_cons_zero, List.getElem?_cons_succ, ex_some, oD, wo_is, isNon, ex_bl, if_true]
      all_goals first | trivial | exact ⟨rfl, rfl⟩ | exact ⟨(by first | rfl | trivial), (by first | rfl | trivial)⟩
    | some k =>
      have hk := h k rfl
      have e : nm os (some k) = some os[k] := List.getElem?_eq_getElem hk
      simp only [wo_run, List.map_cons, List.map_nil, List.length_cons, List.length_nil, Nat.reduceAdd, Nat.reduceSub, List.replicate, List.cons_append, List.nil_append, ws_seq, ws_if, ws_ret, ws_next, wt_e, we_op, we_var, we_c, List.getElem?_cons_zero, List.getElem?_cons_succ, ex_some, oD, wo_is, isNon, ex_bl, Bool.false_eq_true, if_false, ixA_nD hk, e]
      all_goals first | trivial | exact ⟨rfl, rfl⟩ | exact ⟨(by first | rfl | trivial), (by first | rfl | trivial)⟩
  obtain ⟨v, S', e, rfl, rfl⟩ := this
  exact e
theorem undone_ok {n : Nat} {os : List Nat} {S : Sto} (h : Or n os) (hn : n ≤ 100) : Wo (m_law_undone [.tup (os.map nD)] S) fun v S' => v = .tup ((inv os).map nD) ∧ Gr S S' := by
  have big : 1000 ≤ sizeLine := by decide
  have hl := h.len
  unfold m_law_undone b_law_undone
  simp only [wo_run, List.map_cons, List.map_nil, List.length_cons, List.length_nil, Nat.reduceAdd, Nat.reduceSub, List.replicate, List.cons_append, List.nil_append, ws_ret, we_call, wa_cons, wa_nil]
  refine we_compM (rngD 0 n) (fun x => .int (os.idxOf (numD x).toNat : Nat)) (Gr S) (fun l => ∃ y0, l = [y0, some (.tup (os.map nD))]) (rng_im (as1 ?_) (by omega)) (Gr.refl _) ⟨_, rfl⟩ (fun i S _ => rfl) (by rw [rngD_len]; omega) ?_ ?_
  · show some (D.int ((os.map nD).length : Int), S) = _
    rw [List.length_map, hl]
  · rintro x l S2 hx ⟨y0, rfl⟩ g2
    rw [rngD_map] at hx
    obtain ⟨k, hk, rfl⟩ := List.mem_map.mp hx
    rw [List.mem_range] at hk
    simp only [wg_name, List.set_cons_zero]
    refine ⟨g2, ⟨_, rfl⟩, .int (os.idxOf k : Nat), S2, ?_, ?_, g2⟩
    · unfold eMethU
      show (intsD (os.map nD)).bind _ = _
      have ei : intsD (os.map nD) = some (os.map fun (k : Nat) => (k : Int)) := by
        have := intsD_map (os.map fun (k : Nat) => (k : Int))
        rwa [List.map_map] at this
      rw [ei]
      show ((os.map fun (k : Nat) => (k : Int)).idxOf? (k : Int)).bind _ = _
      have e2 : (os.map fun (k : Nat) => (k : Int)).idxOf? (k : Int) = some (os.idxOf k) := by
        have hat := h.at_idx hk
        obtain ⟨hi, e⟩ := List.getElem?_eq_some_iff.mp hat
        unfold List.idxOf?
        rw [List.findIdx?_eq_some_iff_getElem]
        refine ⟨by simpa using hi, by simp [e], fun j hj => ?_⟩
        have hj' : j < os.length := by omega
        simp only [List.getElem_map, beq_iff_eq, Bool.not_eq_true]
        intro z
        have : os[j] = os[os.idxOf k] := by rw [e]; omega
        have := (List.getElem_inj h.nd).mp this
        omega
      rw [e2]; rfl
    · show D.int (os.idxOf k : Nat) = D.int (os.idxOf (k : Int).toNat : Nat)
      rw [Int.toNat_natCast]
  · intro S2 g2
    have e : (rngD 0 n).map (fun x => D.int (os.idxOf (numD x).toNat : Nat)) = (inv os).map nD := by
      rw [rngD_map, List.map_map]
      unfold inv
      rw [List.map_map, hl]
      apply List.map_congr_left
      intro k _
      show D.int (os.idxOf (k : Int).toNat : Nat) = D.int (os.idxOf k : Nat)
      rw [Int.toNat_natCast]
    simp only [wo_tupleL, lstOf_last, ex_some1, e]
    first | exact ⟨(by first | rfl | trivial), g2.push _⟩ | exact g2.push _
theorem at_map {α : Type} (f : α → D) {xs : List α} {d : Nat} {x : α} (h : xs[d]? = some x) : L2.atI (xs.map f) (d : Int) = some (f x) := by
  have hl := (List.getElem?_eq_some_iff.mp h).1
  have : L2.ixN (xs.map f).length (d : Int) = some d := by unfold L2.ixN; simp; omega
  unfold L2.atI
  rw [this]
  show (xs.map f)[d]? = _
  rw [List.getElem?_map, h]; rfl
noncomputable def cl (rs : List (List Cl)) (i j : Nat) : Cl := ((rs[i]?).getD [])[j]?.getD (none, none)
section
variable {asks : Nat} {rs : List (List Cl)}
theorem OkM.row (ok : OkM asks rs) {i : Nat} (hi : i < rs.length) : ∃ cs, rs[i]? = some cs ∧ OkR rs.length asks cs := ⟨_, List.getElem?_eq_getElem hi, ok.ok _ (List.getElem_mem hi)⟩
theorem OkM.cell (ok : OkM asks rs) {i j : Nat} (hi : i < rs.length) (hj : j < asks) : ∃ cs, rs[i]? = some cs ∧ cs[j]? = some (cl rs i j) ∧ OkC rs.length (cl rs i j) := by
  obtain ⟨cs, e, l, o⟩ := ok.row hi
  have hj' : j < cs.length := by omega
  have ec : cl rs i j = cs[j] := by unfold cl; rw [e]; simp [hj']
  refine ⟨cs, e, ?_, ?_⟩
  · rw [ec]; exact List.getElem?_eq_getElem hj'
  · rw [ec]; exact o _ (List.getElem_mem hj')
end
noncomputable def rcl (rs : List (List Cl)) (p b : List Nat) (i j : Nat) : Cl := (nm p (cl rs i j).1, nm b (cl rs i j).2)
noncomputable def ren (rs : List (List Cl)) (p a b : List Nat) : List (List Cl) := (inv p).map fun i => (inv a).map fun j => rcl rs p b i j
section
variable {asks : Nat} {rs : List (List Cl)} {p a b : List Nat}
theorem ren_len : (ren rs p a b).length = p.length := by unfold ren; rw [List.length_map, inv_len]
theorem ren_get (hp : Or rs.length p) {k : Nat} (hk : k < rs.length) : (ren rs p a b)[k]? = some ((inv a).map fun j => rcl rs p b (p.idxOf k) j) := by
  unfold ren
  rw [List.getElem?_map, inv_get hp hk]; rfl
theorem ren_cl (hp : Or rs.length p) (ha : Or asks a) {k j : Nat} (hk : k < rs.length) (hj : j < asks) : cl (ren rs p a b) k j = rcl rs p b (p.idxOf k) (a.idxOf j) := by
  unfold cl
  rw [ren_get hp hk, Option.getD_some, List.getElem?_map, inv_get ha hj]; rfl
theorem ren_ok (ok : OkM asks rs) (hp : Or rs.length p) (ha : Or asks a) (hb : Or 8 b) : OkM asks (ren rs p a b) := by
  have e : (ren rs p a b).length = rs.length := by rw [ren_len, hp.len]
  refine ⟨ok.a1, ok.a4, by rw [e]; exact ok.r1, by rw [e]; exact ok.r24, fun cs hcs => ?_⟩
  unfold ren at hcs
  obtain ⟨i, hi, rfl⟩ := List.mem_map.mp hcs
  rw [e]
  refine ⟨by rw [List.length_map, inv_len, ha.len], fun c hc => ?_⟩
  obtain ⟨j, hj, rfl⟩ := List.mem_map.mp hc
  exact ⟨fun k e => nm_lt hp e, fun k e => nm_lt hb e⟩
theorem nm_back {n : Nat} {os : List Nat} (h : Or n os) {g : Option Nat} (hg : ∀ k, g = some k → k < n) : nm (inv os) (nm os g) = g := by
  cases g with
  | none => rfl
  | some k =>
    have hk : k < os.length := by rw [h.len]; exact hg k rfl
    have e : nm os (some k) = some os[k] := List.getElem?_eq_getElem hk
    rw [e]
    show (inv os)[os[k]]? = some k
    rw [inv_get h (h.lt (List.getElem_mem hk)), h.idx (List.getElem?_eq_getElem hk)]
theorem rows_eq (ok : OkM asks rs) {qs : List (List Cl)} (oq : OkM asks qs) (hl : qs.length = rs.length) (h : ∀ i j, i < rs.length → j < asks → cl qs i j = cl rs i j) : qs = rs := by
  apply List.ext_getElem?
  intro i
  by_cases hi : i < rs.length
  · obtain ⟨c1, e1, l1, _⟩ := oq.row (i := i) (by omega)
    obtain ⟨c2, e2, l2, _⟩ := ok.row hi
    rw [e1, e2]
    congr 1
    apply List.ext_getElem?
    intro j
    by_cases hj : j < asks
    · obtain ⟨d1, f1, g1, _⟩ := oq.cell (i := i) (by omega) hj
      obtain ⟨d2, f2, g2, _⟩ := ok.cell hi hj
      rw [e1] at f1; cases f1
      rw [e2] at f2; cases f2
      rw [g1, g2, h i j hi hj]
    · rw [List.getElem?_eq_none (by omega), List.getElem?_eq_none (by omega)]
  · rw [List.getElem?_eq_none (by omega), List.getElem?_eq_none (by omega)]
theorem ren_back (ok : OkM asks rs) (hp : Or rs.length p) (ha : Or asks a) (hb : Or 8 b) : ren (ren rs p a b) (inv p) (inv a) (inv b) = rs := by
  have e : (ren rs p a b).length = rs.length := by rw [ren_len, hp.len]
  have o1 := ren_ok ok hp ha hb
  have hp' : Or (ren rs p a b).length (inv p) := by rw [e]; exact hp.inv
  refine rows_eq ok (ren_ok o1 hp' ha.inv hb.inv) (by rw [ren_len, inv_len, hp.len]) fun i j hi hj => ?_
  rw [ren_cl hp' ha.inv (by rw [e]; exact hi) hj]
  have hpi : i < p.length := by rw [hp.len]; exact hi
  have haj : j < a.length := by rw [ha.len]; exact hj
  have e1 := List.getElem?_eq_getElem hpi
  have e2 := List.getElem?_eq_getElem haj
  rw [inv_idx hp e1, inv_idx ha e2]
  unfold rcl
  have k1 := hp.lt (List.getElem_mem hpi)
  have k2 := ha.lt (List.getElem_mem haj)
  rw [ren_cl hp ha k1 k2, hp.idx e1, ha.idx e2]
  obtain ⟨_, _, _, oc⟩ := ok.cell hi hj
  unfold rcl
  dsimp only
  rw [nm_back hp oc.1, nm_back hb oc.2]
theorem renamed_ok {S : Sto} (ok : OkM asks rs) (hp : Or rs.length p) (ha : Or asks a) (hb : Or 8 b) (hS : S[1]? = some (.tab "places")) : Wo (m_renamed [mD asks rs, .tup (p.map nD), .tup (a.map nD), .tup (b.map nD)] S) fun v S' => v = mD asks (ren rs p a b) ∧ Gr S S' := by
  have big : 1000 ≤ sizeLine := by decide
  have sz2 : 2 ≤ sizeLine := by decide
  have r24 := ok.r24
  have a4 := ok.a4
  unfold m_renamed b_renamed
  simp only [wo_run, List.map_cons, List.map_nil, List.length_cons, List.length_nil, Nat.reduceAdd, Nat.reduceSub, List.replicate, List.cons_append, List.nil_append]
  refine ws_det (l' := [some (mD asks rs), some (.tup (p.map nD)), some (.tup (a.map nD)), some (.tup (b.map nD)), some (.tup (rs.map rD)), none]) (S' := S) ?_ ?_
  · simp only [ws_asg, we_op, we_var, we_c, List.getElem?_cons_zero, List.getElem?_cons_succ, ex_some, mD, wo_ixAT, at2_1, ex_some1, wg_name, List.set_cons_zero, List.set_cons_succ]
    first | exact ⟨(by first | rfl | trivial), (by first | rfl | trivial), (by first | rfl | trivial)⟩ | trivial
  refine ws_cut (fun l T => Gr S T ∧ ∃ (q0 : Nat) (acc : List D), lstOf T q0 = some acc ∧ acc.length = rs.length ∧ (∀ (j : Nat) d, acc[j]? = some d → ∃ q r, (ren rs p a b)[j]? = some r ∧ d = .ref q ∧ lstOf T q = some (r.map cD)) ∧ l = [some (mD asks rs), some (.tup (p.map nD)), some (.tup (a.map nD)), some (.tup (b.map nD)), some (.tup (rs.map rD)), some (.ref q0)]) ?_ ?_
  · rw [ws_asg]
    refine we_comp ((inv p).map nD) (fun i acc l T => Gr (S ++ [.lst ((inv p).map nD)]) T ∧ acc.length = i ∧ (∀ (j : Nat) d, acc[j]? = some d → ∃ q r, (ren rs p a b)[j]? = some r ∧ d = .ref q ∧ lstOf T q = some (r.map cD)) ∧ ∃ y0, l = [y0, some (.tup (a.map nD)), some (.tup (p.map nD)), some (.tup (rs.map rD)), some (.tup (b.map nD))])
      (valL_im (n := S.length) (S1 := S ++ [.lst ((inv p).map nD)]) (show m_places [.tup (p.map nD)] S = _ from places_ok hp (by omega) hS) lstOf_last) ⟨Gr.refl _, rfl, (fun j d e => by cases e), _, rfl⟩ (fun i acc l T h => itL_at (h.1.lst lstOf_last)) ?_ ?_
    · rintro i x acc l T hx ⟨g1, hl, hacc, y0, rfl⟩
      rw [List.getElem?_map] at hx
      cases ei : (inv p)[i]? with
      | none => rw [ei] at hx; cases hx
      | some i0 =>
        rw [ei] at hx
        cases hx
        have hi : i < rs.length := by have := (List.getElem?_eq_some_iff.mp ei).1; rw [inv_len, hp.len] at this; exact this
        have hi0 : i0 < rs.length := hp.inv.lt (List.mem_of_getElem? ei)
        have ei0 : i0 = p.idxOf i := by rw [inv_get hp hi] at ei; exact (Option.some.inj ei).symm
        simp only [wg_name, List.set_cons_zero]
        refine ⟨true, T, rfl, ?_⟩
        dsimp only
        rw [if_pos rfl]
        have hT : T[1]? = some (.tab "places") := g1.get (Gr.get ⟨_, rfl⟩ hS)
        refine we_compM ((inv a).map nD) (fun x => cD (rcl rs p b i0 (numD x).toNat)) (Gr (T ++ [.lst ((inv a).map nD)])) (fun l => ∃ y0, l = [y0, some (.tup (p.map nD)), some (.tup (rs.map rD)), some (nD i0), some (.tup (b.map nD))])
          (valL_im (n := T.length) (S1 := T ++ [.lst ((inv a).map nD)]) (show m_places [.tup (a.map nD)] T = _ from places_ok ha (by omega) hT) lstOf_last) (Gr.refl _) ⟨_, rfl⟩ (fun i T2 h => itL_at (h.lst lstOf_last)) (by rw [List.length_map, inv_len, ha.len]; omega) ?_ ?_
        · rintro x l T2 hx ⟨y1, rfl⟩ g2
          obtain ⟨j, hj, rfl⟩ := List.mem_map.mp hx
          have hj := ha.inv.lt hj
          obtain ⟨cs, f1, f2, oc⟩ := ok.cell hi0 hj
          simp only [wg_name, List.set_cons_zero]
          refine ⟨g2, ⟨_, rfl⟩, ?_⟩
          have ix1 : ∀ {T : Sto} {Q : D → Sto → Prop}, Wo (dIxA (.tup (rs.map rD)) (nD i0) T) Q = Q (rD cs) T := fun {T Q} => by
            unfold nD; rw [wo_ixAT, at_map rD f1]; simp only [ex_some1]
          have ix2 : ∀ {T : Sto} {Q : D → Sto → Prop}, Wo (dIxA (rD cs) (nD j) T) Q = Q (cD (cl rs i0 j)) T := fun {T Q} => by
            unfold nD rD; rw [wo_ixAT, at_map cD f2]; simp only [ex_some1]
          have ix3 : ∀ {T : Sto} {Q : D → Sto → Prop}, Wo (dIxA (cD (cl rs i0 j)) (.int 0) T) Q = Q (oD (cl rs i0 j).1) T := fun {T Q} => by
            unfold cD; rw [wo_ixAT, at2_0]; simp only [ex_some1]
          have ix4 : ∀ {T : Sto} {Q : D → Sto → Prop}, Wo (dIxA (cD (cl rs i0 j)) (.int 1) T) Q = Q (oD (cl rs i0 j).2) T := fun {T Q} => by
            unfold cD; rw [wo_ixAT, at2_1]; simp only [ex_some1]
          have n1 : ∀ {T : Sto}, m_name_of [.tup (p.map nD), oD (cl rs i0 j).1] T = some (oD (nm p (cl rs i0 j).1), T) := fun {T} => name_ok fun k e => by rw [hp.len]; exact oc.1 k e
          have n2 : ∀ {T : Sto}, m_name_of [.tup (b.map nD), oD (cl rs i0 j).2] T = some (oD (nm b (cl rs i0 j).2), T) := fun {T} => name_ok fun k e => by rw [hb.len]; exact oc.2 k e
          simp only [we_call, we_op, wa_cons, wa_nil, we_var, we_c, List.getElem?_cons_zero, List.getElem?_cons_succ, ex_some, ix1, ix2, ix3, ix4, n1, n2, wo_some, wo_tup, List.length_cons, List.length_nil, Nat.reduceAdd, sz2, true_and]
          refine ⟨?_, g2⟩
          show _ = cD (rcl rs p b i0 (j : Int).toNat)
          rw [Int.toNat_natCast]; rfl
        · intro T2 g2
          have gT : Gr T T2 := Gr.trans ⟨_, rfl⟩ g2
          have gN : Gr T (T2 ++ [.lst (((inv a).map nD).map fun x => cD (rcl rs p b i0 (numD x).toNat))]) := gT.push _
          refine ⟨g1.trans gN, by simp [hl], fun j d e => ?_, _, rfl⟩
          rw [List.getElem?_append] at e
          split at e
          · obtain ⟨q, r, h1, h2, h3⟩ := hacc j d e
            exact ⟨q, r, h1, h2, gN.lst h3⟩
          · rename_i hj
            have hj0 : j = i := by have := (List.getElem?_eq_some_iff.mp e).1; simp at this; omega
            subst hj0
            rw [hl, Nat.sub_self] at e
            cases e
            refine ⟨_, _, ren_get hp hi, rfl, ?_⟩
            rw [lstOf_last, List.map_map, List.map_map, ← ei0]
            congr 1
    · rintro acc l T ⟨g1, hl, hacc, y0, rfl⟩
      rw [List.length_map, inv_len, hp.len] at hl
      refine ⟨by omega, ?_⟩
      simp only [wg_name, List.set_cons_zero, List.set_cons_succ]
      have gN : Gr T (T ++ [.lst acc]) := ⟨_, rfl⟩
      have fin : Gr S (T ++ [.lst acc]) ∧ ∃ (q0 : Nat) (acc' : List D), lstOf (T ++ [.lst acc]) q0 = some acc' ∧ acc'.length = rs.length ∧ (∀ (j : Nat) d, acc'[j]? = some d → ∃ q r, (ren rs p a b)[j]? = some r ∧ d = .ref q ∧ lstOf (T ++ [.lst acc]) q = some (r.map cD)) ∧ [some (mD asks rs), some (.tup (p.map nD)), some (.tup (a.map nD)), some (.tup (b.map nD)), some (.tup (rs.map rD)), some (.ref T.length)] = [some (mD asks rs), some (.tup (p.map nD)), some (.tup (a.map nD)), some (.tup (b.map nD)), some (.tup (rs.map rD)), some (.ref q0)] :=
        ⟨(Gr.trans ⟨_, rfl⟩ g1).trans gN, T.length, acc, lstOf_last, hl, fun j d e => let ⟨q, r, h1, h2, h3⟩ := hacc j d e; ⟨q, r, h1, h2, gN.lst h3⟩, rfl⟩
      first | exact ⟨(by first | rfl | trivial), fin⟩ | exact fin
  rintro l T ⟨g, q0, acc, hq, hl, hacc, rfl⟩
  rw [ws_ret, we_call]
  simp only [wa_cons, wa_nil, we_op, we_var, we_c, List.getElem?_cons_zero, List.getElem?_cons_succ, ex_some]
  rw [show mD asks rs = .tup [.int (asks : Int), .tup (rs.map rD)] from rfl, wo_ixAT, at2_0]
  simp only [ex_some1]
  rw [we_call]
  simp only [wa_cons, wa_nil]
  have rl : (ren rs p a b).length = rs.length := by rw [ren_len, hp.len]
  refine we_comp acc (fun i acc' l T' => Gr T T' ∧ acc' = ((ren rs p a b).take i).map rD ∧ ∃ y0, l = [y0]) (valL_im (n := q0) (S1 := T) rfl hq) ⟨Gr.refl _, rfl, _, rfl⟩ (fun i acc l T' h => itL_at (h.1.lst hq)) ?_ ?_
  · rintro i x acc' l T' hx ⟨g1, rfl, y0, rfl⟩
    obtain ⟨q, r, h1, rfl, h3⟩ := hacc i x hx
    simp only [wg_name, List.set_cons_zero]
    refine ⟨true, T', rfl, ?_⟩
    dsimp only
    rw [if_pos rfl]
    simp only [we_call, wa_cons, wa_nil, we_var, List.getElem?_cons_zero, ex_some, wo_tupleL, g1.lst h3, ex_some1]
    refine ⟨g1, ?_, _, rfl⟩
    rw [List.take_add_one, h1, List.map_append]; rfl
  · rintro acc' l T' ⟨g1, rfl, y0, rfl⟩
    refine ⟨by rw [List.length_map, List.length_take]; omega, ?_⟩
    rw [List.take_of_length_le (by omega)]
    simp only [wo_tupleL, lstOf_last, ex_some1, wo_tup, List.length_cons, List.length_nil, Nat.reduceAdd, sz2, true_and]
    first | exact ⟨(by first | rfl | trivial), (g.trans g1).push _⟩ | exact (g.trans g1).push _
end
theorem sh_oD {S : Sto} {k : Nat} {o : Option Nat} (h : ∀ j, o = some j → j < 1000000) : Sh S (k + 1) 10 (oD o) := by
  cases o with
  | none => exact sh_non
  | some j => exact sh_nat (h j rfl)
theorem sh_c {S : Sto} {k m : Nat} {c : Cl} (h : OkC m c) (hm : m ≤ 100) : Sh S (k + 2) 27 (cD c) := by
  unfold cD
  refine (sh_tup (k := k + 1) (B := 10) (n := 2) (fun w hw => ?_) (by simp)).le (by decide)
  rcases List.mem_cons.mp hw with rfl | hw
  · exact sh_oD (k := k) fun j hj => by have := h.1 j hj; omega
  · have : w = oD c.2 := by simpa using hw
    subst this
    exact sh_oD (k := k) fun j hj => by have := h.2 j hj; omega
theorem sh_m {A : Nat} {g : List (List Cl)} (ok : OkM A g) : Sh [] 140 20000 (mD A g) := by
  have a4 := ok.a4
  have r24 := ok.r24
  unfold mD
  refine (sh_tup (k := 139) (B := 6000) (n := 2) (fun x hx => ?_) (by simp)).le (by decide)
  rcases List.mem_cons.mp hx with rfl | hx
  · exact (sh_nat (k := 138) (by omega)).le (by decide)
  · have : x = .tup (g.map rD) := by simpa using hx
    subst this
    refine (sh_tup (k := 138) (B := 240) (n := 24) (fun y hy => ?_) (by rw [List.length_map]; exact r24)).le (by decide)
    obtain ⟨cs, hcs, rfl⟩ := List.mem_map.mp hy
    have okr := ok.ok cs hcs
    unfold rD
    refine (sh_tup (k := 137) (B := 27) (n := 8) (fun z hz => ?_) (by rw [List.length_map, okr.1]; omega)).le (by decide)
    obtain ⟨c, hcc, rfl⟩ := List.mem_map.mp hz
    exact sh_c (k := 135) (okr.2 c hcc) (by omega)
theorem text_m {A : Nat} {g : List (List Cl)} (ok : OkM A g) : ∃ z : Str, ∀ (T : Sto) (Q : D → Sto → Prop), Wo (fReprD [mD A g] T) Q = Q (.str z) T := by
  have sz : 200000 ≤ sizeLine := by decide
  obtain ⟨p, h1, h2⟩ := sh_m ok
  exact ⟨p.shown, fun T Q => reprD_ok (.inl (h2 T ⟨T, rfl⟩)) (by omega)⟩
theorem text_c {m : Nat} {c : Cl} (h : OkC m c) (hm : m ≤ 100) : ∃ z : Str, ∀ (T : Sto) (Q : D → Sto → Prop), Wo (fReprD [cD c] T) Q = Q (.str z) T := by
  have sz : 200000 ≤ sizeLine := by decide
  obtain ⟨p, h1, h2⟩ := sh_c (S := []) (k := 138) h hm
  exact ⟨p.shown, fun T Q => reprD_ok (.inl (h2 T ⟨T, rfl⟩)) (by omega)⟩
section
variable {A : Nat} {g : List (List Cl)} {T : Sto} {Q : D → Sto → Prop}
theorem m_0 : Wo (dIxA (mD A g) (.int 0) T) Q = Q (.int (A : Int)) T := by unfold mD; rw [wo_ixAT, at2_0]; simp only [ex_some1]
theorem m_1 : Wo (dIxA (mD A g) (.int 1) T) Q = Q (.tup (g.map rD)) T := by unfold mD; rw [wo_ixAT, at2_1]; simp only [ex_some1]
theorem m_ty {U : String} : Wo (fIsI U (mD A g) T) Q = Q (.bl (isI "tuple" U)) T := wo_isI_tup
theorem m_len : Wo (fLenA [mD A g] T) Q = Q (.int 2) T := by unfold mD; rw [wo_lenAT]; rfl
theorem ix_r {i : Nat} {cs : List Cl} (h : g[i]? = some cs) : Wo (dIxA (.tup (g.map rD)) (.int (i : Int)) T) Q = Q (rD cs) T := by rw [wo_ixAT, at_map rD h]; simp only [ex_some1]
theorem ix_c {i : Nat} {cs : List Cl} {c : Cl} (h : cs[i]? = some c) : Wo (dIxA (rD cs) (.int (i : Int)) T) Q = Q (cD c) T := by unfold rD; rw [wo_ixAT, at_map cD h]; simp only [ex_some1]
theorem r_ty {cs : List Cl} {U : String} : Wo (fIsI U (rD cs) T) Q = Q (.bl (isI "tuple" U)) T := wo_isI_tup
theorem r_len {cs : List Cl} : Wo (fLenA [rD cs] T) Q = Q (.int (cs.length : Int)) T := by unfold rD; rw [wo_lenAT, List.length_map]
theorem ix_o {os : List Nat} {i k : Nat} (h : os[i]? = some k) : Wo (dIxA (.tup (os.map nD)) (.int (i : Int)) T) Q = Q (.int (k : Int)) T := by rw [wo_ixAT, at_map nD h]; simp only [ex_some1, nD]
end
theorem right_ok {asks : Nat} {rs : List (List Cl)} {p a b : List Nat} {S : Sto} (ok : OkM asks rs) (hp : Or rs.length p) (ha : Or asks a) (hb : Or 8 b) : Wo (m_law_right [mD asks rs, mD asks (ren rs p a b), .tup (p.map nD), .tup (a.map nD), .tup (b.map nD)] S) fun v S' => v = .bl true ∧ S' = S := by
  have sz2 : 2 ≤ sizeLine := by decide
  have tt : isI "tuple" "tuple" = true := by decide
  have tb : isI "int" "bool" = false := by decide
  have r24 := ok.r24
  have a4 := ok.a4
  have o2 := ren_ok ok hp ha hb
  have rl : (ren rs p a b).length = rs.length := by rw [ren_len, hp.len]
  unfold m_law_right b_law_right
  simp only [wo_run, List.map_cons, List.map_nil, List.length_cons, List.length_nil, Nat.reduceAdd, Nat.reduceSub, List.replicate, List.cons_append, List.nil_append]
  refine ws_det (l' := [some (mD asks rs), some (mD asks (ren rs p a b)), some (.tup (p.map nD)), some (.tup (a.map nD)), some (.tup (b.map nD)), none, none, none, none, none]) (S' := S) ?_ ?_
  · simp only [ws_if, wt_or, wt_not, wt_e, we_un, we_op, we_call, wa_cons, wa_nil, we_var, we_c, List.getElem?_cons_zero, List.getElem?_cons_succ, ex_some, m_0, m_1, m_ty, m_len, tt, ex_bl, Bool.not_true, Bool.false_eq_true, if_false, wo_neI, decide_true, wo_isI_tup, ws_next]
    all_goals first | exact ⟨(by first | rfl | trivial), (by first | rfl | trivial), (by first | rfl | trivial)⟩ | trivial
  refine ws_det (l' := [some (mD asks rs), some (mD asks (ren rs p a b)), some (.tup (p.map nD)), some (.tup (a.map nD)), some (.tup (b.map nD)), none, none, none, none, none]) (S' := S) ?_ ?_
  · simp only [ws_if, wt_or, wt_not, wt_e, we_un, we_op, we_call, wa_cons, wa_nil, we_var, we_c, List.getElem?_cons_zero, List.getElem?_cons_succ, ex_some, m_0, m_1, wo_lenAT, List.length_map, rl, ex_bl, wo_neI, decide_true, Bool.not_true, Bool.false_eq_true, if_false, wo_isI_int, tb, ws_next]
    all_goals first | exact ⟨(by first | rfl | trivial), (by first | rfl | trivial), (by first | rfl | trivial)⟩ | trivial
  rw [ws_seq]
  have e1 : aCons (eCall fLenA (aCons (eOp dIxA (eVar 0) (eC (.int 1))) aNil)) aNil [some (mD asks rs), some (mD asks (ren rs p a b)), some (.tup (p.map nD)), some (.tup (a.map nD)), some (.tup (b.map nD)), none, none, none, none, none] S = some ([.int (rs.length : Int)], S) := by
    refine as1 ?_
    show some (D.int ((rs.map rD).length : Int), S) = _
    rw [List.length_map]
  refine ws_rng (n := rs.length) (fun i l T => T = S ∧ ∃ y5 y6 y7 y8 y9, l = [some (mD asks rs), some (mD asks (ren rs p a b)), some (.tup (p.map nD)), some (.tup (a.map nD)), some (.tup (b.map nD)), y5, y6, y7, y8, y9]) (fun _ _ => False) e1 (by omega) ⟨rfl, _, _, _, _, _, rfl⟩ ?_ ?_ (fun d l S h => h.elim)
  · rintro i l T hi ⟨rfl, y5, y6, y7, y8, y9, rfl⟩
    have hpi : i < p.length := by rw [hp.len]; exact hi
    have ep := List.getElem?_eq_getElem hpi
    have kp := hp.lt (List.getElem_mem hpi)
    obtain ⟨cs, f1, okr⟩ := o2.row (i := p[i]) (by rw [rl]; exact kp)
    simp only [wg_name, List.set_cons_zero, List.set_cons_succ]
    refine ws_det (l' := [some (mD asks rs), some (mD asks (ren rs p a b)), some (.tup (p.map nD)), some (.tup (a.map nD)), some (.tup (b.map nD)), some (.int (i : Int)), some (rD cs), y7, y8, y9]) (S' := T) ?_ ?_
    · simp only [ws_asg, we_op, we_var, we_c, List.getElem?_cons_zero, List.getElem?_cons_succ, ex_some, m_1, ix_o ep, ix_r f1, wg_name, List.set_cons_zero, List.set_cons_succ]
      all_goals first | exact ⟨(by first | rfl | trivial), (by first | rfl | trivial), (by first | rfl | trivial)⟩ | trivial
    refine ws_det (l' := [some (mD asks rs), some (mD asks (ren rs p a b)), some (.tup (p.map nD)), some (.tup (a.map nD)), some (.tup (b.map nD)), some (.int (i : Int)), some (rD cs), y7, y8, y9]) (S' := T) ?_ ?_
    · simp only [ws_if, wt_or, wt_not, wt_e, we_un, we_op, we_call, wa_cons, wa_nil, we_var, we_c, List.getElem?_cons_zero, List.getElem?_cons_succ, ex_some, m_0, r_ty, r_len, okr.1, tt, ex_bl, Bool.not_true, Bool.false_eq_true, if_false, wo_neI, decide_true, ws_next]
      all_goals first | exact ⟨(by first | rfl | trivial), (by first | rfl | trivial), (by first | rfl | trivial)⟩ | trivial
    have e2 : aCons (eOp dIxA (eVar 0) (eC (.int 0))) aNil [some (mD asks rs), some (mD asks (ren rs p a b)), some (.tup (p.map nD)), some (.tup (a.map nD)), some (.tup (b.map nD)), some (.int (i : Int)), some (rD cs), y7, y8, y9] T = some ([.int (asks : Int)], T) := rfl
    refine ws_rng (n := asks) (fun j l T' => T' = T ∧ ∃ y7 y8 y9, l = [some (mD asks rs), some (mD asks (ren rs p a b)), some (.tup (p.map nD)), some (.tup (a.map nD)), some (.tup (b.map nD)), some (.int (i : Int)), some (rD cs), y7, y8, y9]) (fun _ _ => False) e2 (by omega) ⟨rfl, _, _, _, rfl⟩ ?_ ?_ (fun d l S h => h.elim)
    · rintro j l T' hj ⟨rfl, z7, z8, z9, rfl⟩
      have haj : j < a.length := by rw [ha.len]; exact hj
      have ea := List.getElem?_eq_getElem haj
      have ka := ha.lt (List.getElem_mem haj)
      obtain ⟨cs0, g1, g2, oc⟩ := ok.cell hi hj
      obtain ⟨cs1, k1, k2, oc2⟩ := o2.cell (i := p[i]) (j := a[j]) (by rw [rl]; exact kp) ka
      rw [f1] at k1
      cases k1
      have ec : cl (ren rs p a b) p[i] a[j] = (nm p (cl rs i j).1, nm b (cl rs i j).2) := by
        have z := ren_cl (b := b) hp ha kp ka
        rw [hp.idx ep, ha.idx ea] at z
        exact z
      rw [ec] at k2 oc2
      rw [rl] at oc2
      simp only [wg_name, List.set_cons_zero, List.set_cons_succ]
      refine ws_det (l' := [some (mD asks rs), some (mD asks (ren rs p a b)), some (.tup (p.map nD)), some (.tup (a.map nD)), some (.tup (b.map nD)), some (.int (i : Int)), some (rD cs), some (.int (j : Int)), some (oD (cl rs i j).1), some (oD (cl rs i j).2)]) (S' := T') ?_ ?_
      · simp only [ws_asg, we_op, we_var, we_c, List.getElem?_cons_zero, List.getElem?_cons_succ, ex_some, m_1, ix_r g1, ix_c g2, cD, wg_tup, wg_cons, wg_nil, wg_name, List.length_cons, List.length_nil, Nat.reduceAdd, List.set_cons_zero, List.set_cons_succ, true_and]
        all_goals first | exact ⟨(by first | rfl | trivial), (by first | rfl | trivial), (by first | rfl | trivial)⟩ | trivial
      have n1 : m_law_name [.tup (p.map nD), oD (cl rs i j).1] T' = some (oD (nm p (cl rs i j).1), T') := lname_ok fun k e => by rw [hp.len]; exact oc.1 k e
      have n2 : m_law_name [.tup (b.map nD), oD (cl rs i j).2] T' = some (oD (nm b (cl rs i j).2), T') := lname_ok fun k e => by rw [hb.len]; exact oc.2 k e
      obtain ⟨z, hz⟩ := text_c oc2 (by omega)
      have hz' : ∀ (T : Sto) (Q : D → Sto → Prop), Wo (fReprD [.tup [oD (nm p (cl rs i j).1), oD (nm b (cl rs i j).2)]] T) Q = Q (.str z) T := hz
      simp only [ws_if, wt_e, we_op, we_call, wa_cons, wa_nil, we_var, List.getElem?_cons_zero, List.getElem?_cons_succ, ex_some, ix_o ea, ix_c k2, hz, n1, n2, wo_some, wo_tup, List.length_cons, List.length_nil, Nat.reduceAdd, sz2, true_and, hz', wo_neS, decide_true, Bool.not_true, ex_bl, Bool.false_eq_true, if_false, ws_next]
      first | exact .inl ⟨(by first | exact .inl rfl | exact .inl trivial | trivial), (by first | rfl | trivial), _, _, _, rfl⟩ | exact .inl ⟨(by first | rfl | trivial), _, _, _, rfl⟩ | exact .inl ⟨(by first | exact .inl rfl | exact .inl trivial | trivial), _, _, _, rfl⟩ | exact .inl ⟨_, _, _, rfl⟩
    · rintro l' S' ⟨rfl, z7, z8, z9, rfl⟩
      exact .inl ⟨(by first | exact .inl rfl | exact .inl trivial | trivial), (by first | rfl | trivial), _, _, _, _, _, rfl⟩
  · rintro l' S' ⟨rfl, y5, y6, y7, y8, y9, rfl⟩
    simp only [ws_ret, we_c]
    first | exact ⟨(by first | rfl | trivial), (by first | rfl | trivial)⟩ | trivial
theorem we_dict0 {l : Lo} {S : Sto} {Q : D → Sto → Prop} : We eDict0 l S Q = Q (.ref S.length) (S ++ [.dct []]) := wo_some
theorem wo_neg {i : Int} {S : Sto} {Q : D → Sto → Prop} : Wo (dNeg (.int i) S) Q = Q (.int (-i)) S := wo_some
structure Bad (m : Nat) (T : Sto) (t : D) : Prop where
  ty : Tys T t
  len : ∀ ds, t = .tup ds → ds.length ≤ 100
  no : OrdB m t = false
theorem Tys.gr {S S' : Sto} {d : D} (h : Tys S d) (g : Gr S S') : Tys S' d := by
  cases d with
  | tup ds => exact fun x hx => (h x hx).gr g
  | non => exact Ty.gr h g
  | bl b => exact Ty.gr h g
  | int i => exact Ty.gr h g
  | str z => exact Ty.gr h g
  | ref k => exact Ty.gr h g
  | fn a => exact Ty.gr h g
theorem Bad.gr {m : Nat} {S S' : Sto} {t : D} (h : Bad m S t) (g : Gr S S') : Bad m S' t := ⟨h.ty.gr g, h.len, h.no⟩
theorem bad_len {m : Nat} {ds : List D} (h : ds.length ≠ m) : OrdB m (.tup ds) = false := by rw [ordB_tup]; simp [h]
theorem bad_all {m : Nat} {ds : List D} {d : D} (h : d ∈ ds) (hd : below m d = false) : OrdB m (.tup ds) = false := by
  have : ds.all (below m) = false := by
    rw [List.all_eq_false]
    exact ⟨d, h, by rw [hd]; decide⟩
  rw [ordB_tup, this]; simp
theorem bad_two {m : Nat} {os : List Nat} {i j : Nat} (hi : i < os.length) (hj : j < os.length) (hne : i ≠ j) : OrdB m (.tup ((os.set i os[j]).map nD)) = false := by
  have : ¬ (((os.set i os[j]).map nD).map numD).Nodup := by
    intro nd
    rw [num_nD] at nd
    have hi' : i < (os.set i os[j]).length := by rw [List.length_set]; exact hi
    have hj' : j < (os.set i os[j]).length := by rw [List.length_set]; exact hj
    have e : ((os.set i os[j]).map fun (k : Nat) => (k : Int))[i]'(by rw [List.length_map]; exact hi') = ((os.set i os[j]).map fun (k : Nat) => (k : Int))[j]'(by rw [List.length_map]; exact hj') := by
      simp [List.getElem_map, List.getElem_set, hne]
    exact hne ((List.getElem_inj nd).mp e)
  rw [ordB_tup, decide_eq_false this]; simp
theorem ty_nD {T : Sto} {os : List Nat} : ∀ d ∈ os.map nD, Ty T d := fun d hd => by
  obtain ⟨k, _, rfl⟩ := List.mem_map.mp hd
  exact ⟨_, rfl⟩
noncomputable def Rp (S : Sto) (d : D) : Prop := ∃ z : Str, ∀ (T : Sto) (Q : D → Sto → Prop), Gr S T → Wo (fReprD [d] T) Q = Q (.str z) T
theorem rp_sh {S : Sto} {B : Nat} {d : D} (h : Sh S 140 B d) (hB : B ≤ 1000) : Rp S d := by
  have sz : 1000 ≤ sizeLine := by decide
  obtain ⟨p, h1, h2⟩ := h
  exact ⟨p.shown, fun T Q g => reprD_ok (.inl (h2 T g)) (by omega)⟩
theorem sh_p {S : Sto} {k B : Nat} {d : D} (p : PyData) (h : p.shown.length ≤ B) (e : ∀ S', pyOf S' (k + 1) d = some p) : Sh S (k + 1) B d := ⟨p, h, fun S' _ => e S'⟩
theorem num_text : ∀ x : Nat, x < 24 → (PySem.Str.ofString (toString (x : Int))).length ≤ 10 ∧ ∀ c ∈ (PySem.Str.ofString (toString (x : Int))).cps.toList, c < 128 := by
  have key : (List.range 24).all (fun x => decide ((PySem.Str.ofString (toString ((x : Nat) : Int))).length ≤ 10) && (PySem.Str.ofString (toString ((x : Nat) : Int))).cps.toList.all (fun c => decide (c < 128))) = true := by decide +kernel
  intro x hx
  have := List.all_eq_true.mp key x (List.mem_range.mpr hx)
  rw [Bool.and_eq_true, decide_eq_true_eq, List.all_eq_true] at this
  exact ⟨this.1, fun c hc => of_decide_eq_true (this.2 c hc)⟩
structure Odd (m : Nat) (S : Sto) (d : D) : Prop where
  rp : Rp S d
  ty : Ty S d
  no : below m d = false
noncomputable def oddL (m x i j : Nat) : List D := [.int (m : Int), .int (-1), .bl true, .bl false, .str (toString (x : Int)), .non, .tup [nD x], .ref i, .ref j, .int (10 ^ 30)]
theorem odd_ok {m x i j : Nat} {S : Sto} (hm : m ≤ 24) (hx : x < 24) (hi : S[i]? = some (.lst [nD x])) (hj : S[j]? = some (.dct [])) : ∀ d ∈ oddL m x i j, Odd m S d := by
  have ti : tyD S (.ref i) = some "list" := by unfold tyD; dsimp only; rw [hi]
  have tj : tyD S (.ref j) = some "dict" := by unfold tyD; dsimp only; rw [hj]
  intro d hd
  unfold oddL at hd
  simp only [List.mem_cons, List.not_mem_nil, or_false] at hd
  rcases hd with rfl | rfl | rfl | rfl | rfl | rfl | rfl | rfl | rfl | rfl
  · exact ⟨rp_sh (sh_nat (k := 139) (by omega)) (by decide), ⟨_, rfl⟩, by simp [below]⟩
  · exact ⟨rp_sh (sh_p (k := 139) (B := 10) (.int (-1)) (by decide +kernel) fun S' => by unfold pyOf; rfl) (by decide), ⟨_, rfl⟩, by simp [below]⟩
  · exact ⟨rp_sh (sh_p (k := 139) (B := 10) (.bool true) (by decide +kernel) fun S' => by unfold pyOf; rfl) (by decide), ⟨_, rfl⟩, rfl⟩
  · exact ⟨rp_sh (sh_p (k := 139) (B := 10) (.bool false) (by decide +kernel) fun S' => by unfold pyOf; rfl) (by decide), ⟨_, rfl⟩, rfl⟩
  · obtain ⟨h1, h2⟩ := num_text x hx
    exact ⟨rp_sh (sh_str (k := 139) (B := 10) h1 h2) (by decide), ⟨_, rfl⟩, rfl⟩
  · exact ⟨rp_sh (sh_non (k := 139)) (by decide), ⟨_, rfl⟩, rfl⟩
  · refine ⟨rp_sh (sh_tup (k := 139) (B := 10) (n := 1) (fun y hy => ?_) (by simp)) (by decide), ⟨_, rfl⟩, rfl⟩
    rw [List.mem_singleton.mp hy]
    exact sh_nat (k := 138) (by omega)
  · refine ⟨rp_sh (sh_lst (k := 139) (B := 10) (n := 1) (lst_of hi) (fun y hy => ?_) (by simp)) (by decide), ⟨_, ti⟩, rfl⟩
    rw [List.mem_singleton.mp hy]
    exact sh_nat (k := 138) (by omega)
  · refine ⟨⟨PyData.shown (.dict []), fun T Q g => reprD_ok (.inr ?_) (by decide +kernel)⟩, ⟨_, tj⟩, rfl⟩
    unfold pyT
    rw [g.get hj]
  · refine ⟨rp_sh (sh_p (k := 139) (B := 40) (.int (10 ^ 30)) (by decide +kernel) fun S' => ?_) (by decide), ⟨_, rfl⟩, ?_⟩
    · unfold pyOf
      rw [if_pos (by decide +kernel)]
    · show (decide ((0 : Int) ≤ 10 ^ 30) && decide ((10 : Int) ^ 30 < (m : Int))) = false
      have h1 : (24 : Int) < 10 ^ 30 := by decide
      have h2 : ¬ (10 : Int) ^ 30 < (m : Int) := by omega
      rw [decide_eq_false h2, Bool.and_false]
structure BL (m k : Nat) (T : Sto) (q : Nat) : Prop where
  ex : ∃ ts, T[q]? = some (.lst ts) ∧ ts.length ≤ k ∧ ∀ t ∈ ts, Bad m T t
theorem cuts {os : List Nat} {i : Nat} (hi : i < os.length) (y : D) : (os.map nD).take i ++ [y] ++ (os.map nD).drop (i + 1) = (os.map nD).set i y := by
  rw [List.set_eq_take_append_cons_drop, if_pos (by rw [List.length_map]; exact hi)]; simp
theorem at_m1 {os : List Nat} {i : Nat} (hi : i < os.length) (h2 : 2 ≤ os.length) : ∃ j, j < os.length ∧ i ≠ j ∧ ∀ (T : Sto) (Q : D → Sto → Prop), Wo (dIxA (.tup (os.map nD)) (.int ((i : Int) - 1)) T) Q = ∀ (h : j < os.length), Q (nD os[j]) T := by
  by_cases h0 : i = 0
  · subst h0
    refine ⟨os.length - 1, by omega, by omega, fun T Q => ?_⟩
    have : L2.ixN (os.map nD).length ((0 : Nat) - 1 : Int) = some (os.length - 1) := by
      unfold L2.ixN
      rw [List.length_map]
      simp
      omega
    have e : L2.atI (os.map nD) (((0 : Nat) : Int) - 1) = some (nD os[os.length - 1]) := by
      unfold L2.atI
      rw [this]
      show (os.map nD)[os.length - 1]? = _
      rw [List.getElem?_map, List.getElem?_eq_getElem (by omega)]; rfl
    rw [wo_ixAT, e]
    simp only [ex_some1]
    exact propext ⟨fun h _ => h, fun h => h _⟩
  · refine ⟨i - 1, by omega, by omega, fun T Q => ?_⟩
    have e : ((i : Int) - 1) = ((i - 1 : Nat) : Int) := by omega
    rw [e, ixA_nD (show i - 1 < os.length by omega)]
    exact propext ⟨fun h _ => h, fun h => h _⟩
theorem str_sum (os : List Nat) (h : ∀ k ∈ os, k < 24) : ((os.map fun (k : Nat) => PySem.Str.ofString (toString (k : Int))).map (·.length)).sum ≤ 10 * os.length := by
  induction os with
  | nil => simp
  | cons x os ih =>
    have h1 := (num_text x (h x List.mem_cons_self)).1
    have h2 := ih fun k hk => h k (List.mem_cons_of_mem _ hk)
    simp only [List.map_cons, List.sum_cons, List.length_cons]
    omega
theorem strs_map (os : List Nat) : strsD (os.map fun (k : Nat) => D.str (toString (k : Int))) = some (os.map fun (k : Nat) => PySem.Str.ofString (toString (k : Int))) := by
  induction os with
  | nil => rfl
  | cons x os ih =>
    show (strsD (os.map fun (k : Nat) => D.str (toString (k : Int)))).bind _ = _
    rw [ih]; rfl
theorem Ty.set {S : Sto} {q : Nat} {xs ys : List D} {d : D} (h : Ty S d) (e : S[q]? = some (.lst xs)) : Ty (S.set q (.lst ys)) d := by
  obtain ⟨T, h⟩ := h
  cases d with
  | ref k =>
    by_cases hk : q = k
    · subst hk
      exact ⟨"list", by unfold tyD; dsimp only; rw [get_set e]⟩
    · refine ⟨T, ?_⟩
      unfold tyD at h ⊢
      dsimp only at h ⊢
      rw [List.getElem?_set_ne hk]; exact h
  | fn a => cases h
  | non => exact ⟨_, rfl⟩
  | bl b => exact ⟨_, rfl⟩
  | int i => exact ⟨_, rfl⟩
  | str z => exact ⟨_, rfl⟩
  | tup xs => exact ⟨_, rfl⟩
theorem Bad.set {m : Nat} {S : Sto} {q : Nat} {xs ys : List D} {t : D} (h : Bad m S t) (e : S[q]? = some (.lst xs)) : Bad m (S.set q (.lst ys)) t := by
  refine ⟨?_, h.len, h.no⟩
  have := h.ty
  cases t with
  | tup ds => exact fun x hx => (this x hx).set e
  | non => exact Ty.set this e
  | bl b => exact Ty.set this e
  | int i => exact Ty.set this e
  | str z => exact Ty.set this e
  | ref k => exact Ty.set this e
  | fn a => exact Ty.set this e
theorem BL.add {m k j q x : Nat} {T T1 : Sto} {xs : List D} {Q : D → Sto → Prop} (b : BL m k T q) (g : Gr T T1) (e : T1[x]? = some (.lst xs)) (hx : xs.length ≤ j) (hb : ∀ t ∈ xs, Bad m T1 t) (hk : k + j ≤ 100) (hq : ∀ T2 q2, Gr T1 T2 → BL m (k + j) T2 q2 → Q (.ref q2) T2) : Wo (dPlusA (.ref q) (.ref x) T1) Q := by
  have big : 1000 ≤ sizeLine := by decide
  obtain ⟨ts, h1, h2, h3⟩ := b.ex
  rw [wo_plusAL (g.get h1) e]
  refine ⟨by omega, hq _ _ ⟨_, rfl⟩ ⟨⟨_, get_self _ _, by rw [List.length_append]; omega, fun t ht => ?_⟩⟩⟩
  rcases List.mem_append.mp ht with z | z
  · exact (h3 t z).gr (g.push _)
  · exact (hb t z).gr ⟨_, rfl⟩
theorem no_ok (n m : Nat) (os : List Nat) (S : Sto) (h : PQ n S) (ho : Or m os) (hm1 : 1 ≤ m) (hm : m ≤ 24) : Wo (m_law_no_orders [.ref n, .tup (os.map nD)] S) fun v S' => PQ n S' ∧ Fn n S S' ∧ ∃ q, v = .ref q ∧ BL m 100 S' q := by
  have big : 1000 ≤ sizeLine := by decide
  have sz1 : 1 ≤ sizeLine := by decide
  have sz3 : 3 ≤ sizeLine := by decide
  have sz4 : 4 ≤ sizeLine := by decide
  have sz10 : 10 ≤ sizeLine := by decide
  have hl := ho.len
  have h24 : ∀ k ∈ os, k < 24 := fun k hk => by have := ho.lt hk; omega
  unfold m_law_no_orders b_law_no_orders
  simp only [wo_run, List.map_cons, List.map_nil, List.length_cons, List.length_nil, Nat.reduceAdd, Nat.reduceSub, List.replicate, List.cons_append, List.nil_append]
  refine ws_cut (fun l S' => PQ n S' ∧ Fn n S S' ∧ ∃ i : Nat, i < m ∧ l = [some (.ref n), some (.tup (os.map nD)), some (.int (i : Int)), none, none]) ?_ ?_
  · simp only [ws_asg, we_call, wa_cons, wa_nil, we_var, List.getElem?_cons_zero, List.getElem?_cons_succ, ex_some, wo_lenAT, List.length_map, hl]
    refine (draw_ok n (m : Int) S h (by omega) (by omega)).mono ?_
    rintro x S1 ⟨⟨d, rfl, hd⟩, p, f⟩
    simp only [wg_name, List.set_cons_zero, List.set_cons_succ]
    first | exact ⟨(by first | rfl | trivial), p, f, d, by omega, rfl⟩ | exact ⟨p, f, d, by omega, rfl⟩
  rintro l S1 ⟨p1, f1, i, hi, rfl⟩
  have hil : i < os.length := by omega
  have hx := h24 _ (List.getElem_mem hil)
  refine ws_cut (fun l T => ∃ a b c, Gr S1 T ∧ T[a]? = some (.lst [nD os[i]]) ∧ T[b]? = some (.dct []) ∧ T[c]? = some (.lst (oddL m os[i] a b)) ∧ l = [some (.ref n), some (.tup (os.map nD)), some (.int (i : Int)), some (.ref c), none]) ?_ ?_
  · have lg : (os[i] : Int).natAbs.log2 < 1920 := small_log2 (by omega)
    have c3 : (0 : Int) ≤ 30 ∧ (30 : Int) ≤ 1000000 ∧ (10 : Int).natAbs < 2 ^ 64 := by decide
    have e30 : ((10 : Int) ^ (30 : Int).toNat) = 10 ^ 30 := by decide
    simp only [ws_asg, we_call, we_op, we_un, wa_cons, wa_nil, we_var, we_c, List.getElem?_cons_zero, List.getElem?_cons_succ, ex_some, wo_lenAT, List.length_map, hl, wo_neg, ixA_nD hil, nD, wo_str, lg, true_and, wo_tup, wo_lst, List.length_cons, List.length_nil, Nat.reduceAdd, sz1, sz10, we_dict0, wo_I, decide_eq_true_eq, c3, e30, wg_name, List.set_cons_zero, List.set_cons_succ]
    refine ⟨_, _, _, ⟨_, by rw [List.append_assoc, List.append_assoc]⟩, ?_, ?_, get_self _ _, (by first | rfl | trivial)⟩
    · exact Gr.get ⟨_, rfl⟩ (Gr.get ⟨_, rfl⟩ (get_self S1 _))
    · exact Gr.get ⟨_, rfl⟩ (get_self _ _)
  rintro l T ⟨a, b, c, g1, ha, hb, hc, rfl⟩
  have hd := odd_ok hm hx ha hb
  obtain ⟨zx, hzx⟩ := rp_sh (S := T) (sh_nat (S := T) (k := 139) (n := os[i]) (by omega)) (by decide)
  have hzx' : ∀ (T' : Sto) (Q : D → Sto → Prop), Gr T T' → Wo (fReprD [nD os[i]] T') Q = Q (.str zx) T' := hzx
  have e1 : ((i : Int) + 1) = ((i + 1 : Nat) : Int) := by push_cast; rfl
  have lenc : ∀ (xs : List D), xs.length ≤ 100 → (((os.map nD).take i ++ xs) ++ (os.map nD).drop (i + 1)).length ≤ 200 := fun xs hx => by
    rw [List.length_append, List.length_append, List.length_take, List.length_drop, List.length_map]; omega
  refine ws_cut (fun l T' => PQ n T' ∧ Fn n S T' ∧ ∃ q, S.length ≤ q ∧ q ≠ n ∧ BL m 10 T' q ∧ l = [some (.ref n), some (.tup (os.map nD)), some (.int (i : Int)), some (.ref c), some (.ref q)]) ?_ ?_
  · rw [ws_asg]
    refine we_comp (oddL m os[i] a b) (fun k acc l T' => Gr T T' ∧ acc.length ≤ k ∧ (∀ t ∈ acc, Bad m T' t) ∧ ∃ y0, l = [y0, some (.tup (os.map nD)), some (.int (i : Int))]) (valL_im (n := c) (S1 := T) rfl (lst_of hc)) ⟨Gr.refl _, Nat.le_refl _, (fun t ht => by cases ht), _, rfl⟩ (fun k acc l T' h => itL_at (h.1.lst (lst_of hc))) ?_ ?_
    · rintro k x acc l T' hxk ⟨g2, hk, hbad, y0, rfl⟩
      obtain ⟨⟨z, hz⟩, tyx, nox⟩ := hd x (List.mem_of_getElem? hxk)
      simp only [wg_name, List.set_cons_zero, wt_e, we_op, we_call, wa_cons, wa_nil, we_var, List.getElem?_cons_zero, List.getElem?_cons_succ, ex_some, hz T' _ g2, ixA_nD hil, hzx' T' _ g2, wo_neS, ex_bl]
      by_cases hzz : z = zx
      · simp only [hzz, decide_true, Bool.not_true, Bool.false_eq_true, if_false]
        exact ⟨g2, by omega, hbad, _, rfl⟩
      · simp only [hzz, decide_false, Bool.not_false, if_true, we_op, we_slA, we_call, wa_cons, wa_nil, wp_none, wp_some, we_var, we_c, List.getElem?_cons_zero, List.getElem?_cons_succ, ex_some, ex_int1, wo_slT, cutD_to, wo_tup, List.length_cons, List.length_nil, Nat.reduceAdd, sz1, true_and, wo_plusAT, wo_plusAI, e1, cutD_from]
        have l1 := lenc [x] (by simp)
        have e2 := cuts hil x
        have l2 : ((os.map nD).take i).length + 1 ≤ sizeLine := by rw [List.length_take, List.length_map]; omega
        have l3 : ((os.map nD).take i ++ [x]).length + ((os.map nD).drop (i + 1)).length ≤ sizeLine := by rw [← List.length_append]; omega
        refine ⟨l2, l3, g2, by rw [List.length_append, List.length_singleton]; omega, fun t ht => ?_, _, rfl⟩
        rcases List.mem_append.mp ht with ht | ht
        · exact hbad t ht
        · rw [List.mem_singleton.mp ht, e2]
          refine ⟨fun d hd => ?_, fun ds e => ?_, bad_all (d := x) ?_ nox⟩
          · rcases List.mem_or_eq_of_mem_set hd with z | z
            · exact ty_nD d z
            · rw [z]; exact tyx.gr g2
          · cases e; rw [List.length_set, List.length_map]; omega
          · exact List.mem_of_getElem? (List.getElem?_set_self (by rw [List.length_map]; exact hil))
    · rintro acc l' T' ⟨g2, hk, hbad, y0, rfl⟩
      have hk' : acc.length ≤ 10 := hk
      refine ⟨by omega, ?_⟩
      simp only [wg_name, List.set_cons_zero, List.set_cons_succ]
      have len1 := f1.len p1
      have len2 : S1.length ≤ T'.length := by obtain ⟨ex, e⟩ := g1.trans g2; rw [e, List.length_append]; omega
      have lt1 := p1.lt
      have gg : Gr S1 (T' ++ [.lst acc]) := (g1.trans g2).push _
      have fin : PQ n (T' ++ [.lst acc]) ∧ Fn n S (T' ++ [.lst acc]) ∧ ∃ q, S.length ≤ q ∧ q ≠ n ∧ BL m 10 (T' ++ [.lst acc]) q ∧ [some (D.ref n), some (.tup (os.map nD)), some (.int (i : Int)), some (.ref c), some (.ref T'.length)] = [some (.ref n), some (.tup (os.map nD)), some (.int (i : Int)), some (.ref c), some (.ref q)] :=
        ⟨p1.gr gg, f1.trans (Fn.gr gg), T'.length, by omega, by omega, ⟨acc, get_self _ _, hk', fun t ht => (hbad t ht).gr ⟨_, rfl⟩⟩, rfl⟩
      first | exact ⟨(by first | rfl | trivial), fin⟩ | exact fin
  rintro l T2 ⟨p2, f2, q, hq, hqn, b2, rfl⟩
  refine ws_cut (fun l T' => PQ n T' ∧ Fn n S T' ∧ BL m 11 T' q ∧ l = [some (.ref n), some (.tup (os.map nD)), some (.int (i : Int)), some (.ref c), some (.ref q)]) ?_ ?_
  · obtain ⟨ts, k1, k2, k3⟩ := b2.ex
    simp only [ws_if, wt_e, we_op, we_call, wa_cons, wa_nil, we_var, we_c, List.getElem?_cons_zero, List.getElem?_cons_succ, ex_some, wo_lenAT, List.length_map, wo_I0, ex_bl]
    by_cases h2 : (1 : Int) < (os.length : Int)
    · obtain ⟨j, hj, hne, hat⟩ := at_m1 hil (by omega)
      simp only [h2, decide_true, if_true, ws_drop, we_methL, we_op, we_slA, we_call, wa_cons, wa_nil, wp_none, wp_some, we_var, we_c, List.getElem?_cons_zero, List.getElem?_cons_succ, ex_some, ex_int1, wo_slT, cutD_to, wo_I0, hat, wo_tup, List.length_cons, List.length_nil, Nat.reduceAdd, sz1, true_and, wo_plusAT, wo_plusAI, e1, cutD_from, wo_append]
      have l1 := lenc [nD os[j]] (by simp)
      have e2 := cuts hil (nD os[j])
      have l2 : ((os.map nD).take i).length + 1 ≤ sizeLine := by rw [List.length_take, List.length_map]; omega
      have l3 : ((os.map nD).take i ++ [nD os[j]]).length + ((os.map nD).drop (i + 1)).length ≤ sizeLine := by rw [← List.length_append]; omega
      refine ⟨⟨_, recvL_of k1⟩, fun _ => ⟨l2, l3, ts, k1, by omega, ?_⟩⟩
      have fin : PQ n (T2.set q (.lst (ts ++ [.tup ((os.map nD).take i ++ [nD os[j]] ++ (os.map nD).drop (i + 1))]))) ∧ Fn n S (T2.set q (.lst (ts ++ [.tup ((os.map nD).take i ++ [nD os[j]] ++ (os.map nD).drop (i + 1))]))) ∧ BL m 11 (T2.set q (.lst (ts ++ [.tup ((os.map nD).take i ++ [nD os[j]] ++ (os.map nD).drop (i + 1))]))) q := by
        refine ⟨p2.set hqn, f2.set' hq, ⟨_, get_set k1, by rw [List.length_append, List.length_singleton]; omega, fun t ht => ?_⟩⟩
        rcases List.mem_append.mp ht with z | z
        · exact (k3 t z).set k1
        · rw [List.mem_singleton.mp z, e2, ← List.map_set]
          refine ⟨ty_nD, fun ds e => ?_, bad_two hil hj hne⟩
          cases e; rw [List.length_map, List.length_set]; omega
      obtain ⟨x1, x2, x3⟩ := fin
      first | exact ⟨(by first | rfl | trivial), x1, x2, x3, rfl⟩ | exact ⟨x1, x2, x3, rfl⟩ | exact ⟨(by first | rfl | trivial), x1, x2, x3, (by first | rfl | trivial)⟩ | exact ⟨x1, x2, x3, (by first | rfl | trivial)⟩
    · simp only [h2, decide_false, Bool.false_eq_true, if_false, ws_next]
      have b3 : BL m 11 T2 q := ⟨ts, k1, by omega, k3⟩
      first | exact ⟨(by first | rfl | trivial), p2, f2, b3, rfl⟩ | exact ⟨p2, f2, b3, rfl⟩ | exact ⟨(by first | rfl | trivial), p2, f2, b3, (by first | rfl | trivial)⟩
  rintro l T3 ⟨p3, f3, b3, rfl⟩
  refine ws_cut (fun l T' => PQ n T' ∧ Fn n S T' ∧ ∃ q, BL m 14 T' q ∧ l = [some (.ref n), some (.tup (os.map nD)), some (.int (i : Int)), some (.ref c), some (.ref q)]) ?_ ?_
  · have l1 : (os.map nD).length + 1 ≤ sizeLine := by rw [List.length_map]; omega
    have l2 : ((os.map nD).take i).length + ((os.map nD).drop (i + 1)).length ≤ sizeLine := by rw [List.length_take, List.length_drop, List.length_map]; omega
    have l3 : ((os.map nD).take i).length + 1 ≤ sizeLine := by rw [List.length_take, List.length_map]; omega
    have l4 : ((os.map nD).take i ++ [nD os[i]]).length + ((os.map nD).drop i).length ≤ sizeLine := by rw [List.length_append, List.length_take, List.length_drop, List.length_map, List.length_singleton]; omega
    simp only [ws_asg, we_op, we_slA, we_call, wa_cons, wa_nil, wp_none, wp_some, we_var, we_c, List.getElem?_cons_zero, List.getElem?_cons_succ, ex_some, ex_int1, wo_slT, cutD_to, wo_lenAT, wo_tup, wo_lst, List.length_cons, List.length_nil, Nat.reduceAdd, sz1, sz3, true_and, wo_plusAT, wo_plusAI, e1, cutD_from, ixA_nD hil, l1, l2, l3, l4]
    refine b3.add (j := 3) ⟨_, rfl⟩ (get_self _ _) (by simp) (fun t ht => ?_) (by decide) fun T4 q4 g4 b4 => ?_
    · have ty1 : ∀ {d : D}, d ∈ (os.map nD).take i → Ty (T3 ++ [.lst [.tup (os.map nD ++ [.int ((os.map nD).length : Int)]), .tup ((os.map nD).take i ++ (os.map nD).drop (i + 1)), .tup ((os.map nD).take i ++ [nD os[i]] ++ (os.map nD).drop i)]]) d := fun hd => ty_nD _ (List.mem_of_mem_take hd)
      simp only [List.mem_cons, List.not_mem_nil, or_false] at ht
      rcases ht with rfl | rfl | rfl
      · refine ⟨fun d hd => ?_, fun ds e => ?_, bad_len ?_⟩
        · rcases List.mem_append.mp hd with z | z
          · exact ty_nD d z
          · rw [List.mem_singleton.mp z]; exact ⟨_, rfl⟩
        · cases e; simp; omega
        · simp; omega
      · refine ⟨fun d hd => ?_, fun ds e => ?_, bad_len ?_⟩
        · rcases List.mem_append.mp hd with z | z
          · exact ty1 z
          · exact ty_nD d (List.mem_of_mem_drop z)
        · cases e; simp; omega
        · simp; omega
      · refine ⟨fun d hd => ?_, fun ds e => ?_, bad_len ?_⟩
        · rcases List.mem_append.mp hd with z | z
          · rcases List.mem_append.mp z with z | z
            · exact ty1 z
            · rw [List.mem_singleton.mp z]; exact ⟨_, rfl⟩
          · exact ty_nD d (List.mem_of_mem_drop z)
        · cases e; simp; omega
        · simp; omega
    · simp only [wg_name, List.set_cons_zero, List.set_cons_succ]
      have gg : Gr T3 T4 := Gr.trans ⟨_, rfl⟩ g4
      first | exact ⟨(by first | rfl | trivial), p3.gr gg, f3.trans (Fn.gr gg), q4, b4, rfl⟩ | exact ⟨p3.gr gg, f3.trans (Fn.gr gg), q4, b4, rfl⟩
  rintro l T4 ⟨p4, f4, q4, b4, rfl⟩
  refine ws_cut (fun l T' => PQ n T' ∧ Fn n S T' ∧ ∃ q, BL m 18 T' q ∧ l = [some (.ref n), some (.tup (os.map nD)), some (.int (i : Int)), some (.ref c), some (.ref q)]) ?_ ?_
  · simp only [ws_asg, we_op, we_call, wa_cons, wa_nil, we_var, we_c, List.getElem?_cons_zero, List.getElem?_cons_succ, ex_some, wo_listT, wo_lenAT, we_methS, recvS, true_and]
    refine we_compM (os.map nD) (fun x => .str (toString (numD x))) (Gr (T4 ++ [.lst (os.map nD)])) (fun l => ∃ y0, l = [y0]) (valT_im rfl) (Gr.refl _) ⟨_, rfl⟩ (fun i S _ => rfl) (by rw [List.length_map]; omega) ?_ ?_
    · rintro x l T5 hx5 ⟨y0, rfl⟩ g5
      obtain ⟨k, hk, rfl⟩ := List.mem_map.mp hx5
      have lg : (k : Int).natAbs.log2 < 1920 := small_log2 (by have := h24 k hk; omega)
      simp only [wg_name, List.set_cons_zero]
      refine ⟨g5, ⟨_, rfl⟩, ?_⟩
      simp only [we_call, wa_cons, wa_nil, we_var, List.getElem?_cons_zero, ex_some, nD, wo_str, lg, true_and]
      exact ⟨rfl, g5⟩
    · intro T5 g5
      have em : (os.map nD).map (fun x => D.str (toString (numD x))) = os.map fun (k : Nat) => D.str (toString (k : Int)) := by rw [List.map_map]; rfl
      have hs := str_sum os h24
      simp only [wa_nil, wo_join, lstOf_last, ex_some1, em, strs_map]
      refine ⟨by rw [List.length_map]; show _ + os.length * 0 ≤ _; omega, ?_⟩
      simp only [wo_lst, List.length_cons, List.length_nil, Nat.reduceAdd, sz4, true_and]
      have g6 : Gr T4 (T5 ++ [.lst (os.map fun (k : Nat) => D.str (toString (k : Int)))]) := (Gr.trans ⟨_, rfl⟩ g5).push _
      have hT4 : (T5 ++ [Ob.lst (os.map fun (k : Nat) => D.str (toString (k : Int)))])[T4.length]? = some (.lst (os.map nD)) := Gr.get ⟨_, rfl⟩ (g5.get (get_self _ _))
      refine b4.add (j := 4) (g6.push _) (get_self _ _) (by simp) (fun t ht => ?_) (by decide) fun T6 q6 g7 b6 => ?_
      · simp only [List.mem_cons, List.not_mem_nil, or_false] at ht
        rcases ht with rfl | rfl | rfl | rfl
        · exact ⟨⟨"list", by unfold tyD; dsimp only; rw [Gr.get ⟨_, rfl⟩ hT4]⟩, (fun ds e => by cases e), rfl⟩
        · exact ⟨⟨_, rfl⟩, (fun ds e => by cases e), rfl⟩
        · exact ⟨⟨_, rfl⟩, (fun ds e => by cases e), rfl⟩
        · exact ⟨⟨_, rfl⟩, (fun ds e => by cases e), rfl⟩
      · simp only [wg_name, List.set_cons_zero, List.set_cons_succ]
        have gg : Gr T4 T6 := (g6.push _).trans g7
        first | exact ⟨(by first | rfl | trivial), p4.gr gg, f4.trans (Fn.gr gg), q6, b6, rfl⟩ | exact ⟨p4.gr gg, f4.trans (Fn.gr gg), q6, b6, rfl⟩
  rintro l T5 ⟨p5, f5, q5, b5, rfl⟩
  have l1 : (os.map nD).length + 1 ≤ sizeLine := by rw [List.length_map]; omega
  have sz0 : 0 ≤ sizeLine := by decide
  simp only [ws_ret, we_op, we_call, wa_cons, wa_nil, we_var, we_c, List.getElem?_cons_zero, List.getElem?_cons_succ, ex_some, we_dict0, wo_tup, wo_lst, List.length_cons, List.length_nil, Nat.reduceAdd, sz0, sz1, sz4, true_and, wo_plusAT, l1]
  refine b5.add (j := 4) ⟨_, List.append_assoc ..⟩ (get_self _ _) (by simp) (fun t ht => ?_) (by decide) fun T6 q6 g7 b6 => ?_
  · simp only [List.mem_cons, List.not_mem_nil, or_false] at ht
    rcases ht with rfl | rfl | rfl | rfl
    · exact ⟨⟨"dict", by unfold tyD; dsimp only; rw [Gr.get ⟨_, rfl⟩ (get_self T5 _)]⟩, (fun ds e => by cases e), rfl⟩
    · exact ⟨⟨_, rfl⟩, (fun ds e => by cases e), rfl⟩
    · refine ⟨fun d hd => ?_, fun ds e => ?_, bad_all (d := .tup (os.map nD)) (by simp) rfl⟩
      · rw [List.mem_singleton.mp hd]; exact ⟨_, rfl⟩
      · cases e; simp
    · refine ⟨fun d hd => ?_, fun ds e => ?_, bad_len ?_⟩
      · rcases List.mem_append.mp hd with z | z
        · exact ty_nD d z
        · rw [List.mem_singleton.mp z]; exact ⟨_, rfl⟩
      · cases e; simp; omega
      · simp; omega
  · have gg : Gr T5 T6 := Gr.trans ⟨_, List.append_assoc ..⟩ g7
    obtain ⟨ts, k1, k2, k3⟩ := b6.ex
    exact ⟨p5.gr gg, f5.trans (Fn.gr gg), q6, rfl, ⟨ts, k1, by omega, k3⟩⟩
theorem wo_isNotB {x : D} {b : Bool} {S : Sto} {Q : D → Sto → Prop} : Wo (dIsNotB x (.bl b) S) Q = Q (.bl (!isBl b x)) S := by cases x <;> exact wo_some
theorem wo_isB {x : D} {b : Bool} {S : Sto} {Q : D → Sto → Prop} : Wo (dIsB x (.bl b) S) Q = Q (.bl (isBl b x)) S := by cases x <;> exact wo_some
theorem wo_min2 {i j : Int} {S : Sto} {Q : D → Sto → Prop} : Wo (fMin2 [.int i, .int j] S) Q = Q (.int (if j < i then j else i)) S := wo_some
theorem wo_max2 {i j : Int} {S : Sto} {Q : D → Sto → Prop} : Wo (fMax2 [.int i, .int j] S) Q = Q (.int (if j > i then j else i)) S := wo_some
theorem ws_rngA {g : GM} {b : SM} (P : Nat → Lo → Sto → Prop) (O : D → Sto → Prop) {as : AM} {l : Lo} {S : Sto} {QS : Fl → Lo → Sto → Prop} (h : Wa as l S fun xs S1 => ∃ n : Nat, xs = [.int (n : Int)] ∧ n < 1000 ∧ P 0 l S1)
    (step : ∀ (i : Nat) l S, i < 1000 → P i l S → Wg (g (.int i) l S) fun l1 S1 => Ws b l1 S1 fun f l2 S2 => ((f = .nx ∨ f = .ct) ∧ P (i + 1) l2 S2) ∨ ∃ d, f = .rt d ∧ O d S2)
    (fin : ∀ i l' S', P i l' S' → QS .nx l' S') (out : ∀ d l' S', O d S' → QS (.rt d) l' S') : Ws (sForR (rng1 as) g b) l S QS := by
  obtain ⟨xs, S1, e, n, rfl, hn, p⟩ := h
  exact ws_rng P O e (by omega) p (fun i l S hi hp => step i l S (by omega) hp) (fun l S hp => fin n l S hp) out
theorem ord_yes {m : Nat} {os : List Nat} (h : Or m os) : OrdB m (.tup (os.map nD)) = true := by
  rw [ordB_tup, List.length_map, h.len, decide_eq_true rfl, num_nD]
  have h1 : (os.map nD).all (below (m : Int)) = true := by
    rw [List.all_eq_true]
    intro d hd
    obtain ⟨k, hk, rfl⟩ := List.mem_map.mp hd
    have := h.lt hk
    show (decide ((0 : Int) ≤ (k : Int)) && decide ((k : Int) < (m : Int))) = true
    rw [decide_eq_true (by omega), decide_eq_true (by omega)]; rfl
  rw [h1, decide_eq_true (ord_int h).nodup]; rfl
noncomputable def bd8 : SM := sSeq (sIf (tOr3 (tE (eOp dIsNotB (eCall m_is_order (aCons (eVar 8) (aCons (eCall fLenA (aCons (eVar 8) (aNil))) (aNil)))) (eC (.bl true)))) (tE (eOp dIsNotB (eCall m_is_order (aCons (eVar 8) (aCons (eOp dPlusA (eCall fLenA (aCons (eVar 8) (aNil))) (eC (.int 1))) (aNil)))) (eC (.bl false))))) (sRet (eC (.bl false))) (sNext)) (sSeq (sIf (tE (eOp dIsNotB (eCall m_is_order (aCons (eVar 8) (aCons (eOp dSub (eCall fLenA (aCons (eVar 8) (aNil))) (eC (.int 1))) (aNil)))) (eC (.bl false)))) (sRet (eC (.bl false))) (sNext)) (sFor (eCall m_law_no_orders (aCons (eVar 2) (aCons (eVar 8) (aNil)))) (gName3 9) (sIf (tE (eOp dIsNotB (eCall m_is_order (aCons (eVar 9) (aCons (eCall fLenA (aCons (eVar 8) (aNil))) (aNil)))) (eC (.bl false)))) (sRet (eC (.bl false))) (sNext))))
theorem bd8_ok {n m : Nat} {os : List Nat} {S : Sto} {x0 x1 x3 x4 x5 x6 x7 y9 : Option D} (h : PQ n S) (ho : Or m os) (hm1 : 1 ≤ m) (hm : m ≤ 24) : Ws bd8 [x0, x1, some (.ref n), x3, x4, x5, x6, x7, some (.tup (os.map nD)), y9] S fun f l S' => f = .nx ∧ PQ n S' ∧ Fn n S S' ∧ ∃ y9, l = [x0, x1, some (.ref n), x3, x4, x5, x6, x7, some (.tup (os.map nD)), y9] := by
  have hl := ho.len
  have ty : ∀ T, Tys T (.tup (os.map nD)) := fun T => ty_nD
  have hz : ∀ ds, D.tup (os.map nD) = .tup ds → ds.length ≤ 100 := fun ds e => by cases e; rw [List.length_map]; omega
  unfold bd8
  refine ws_cut (fun l S' => Gr S S' ∧ l = [x0, x1, some (.ref n), x3, x4, x5, x6, x7, some (.tup (os.map nD)), y9]) ?_ ?_
  · simp only [ws_if, wt_or, wt_e, we_op, we_call, wa_cons, wa_nil, we_var, we_c, List.getElem?_cons_zero, List.getElem?_cons_succ, ex_some, wo_lenAT, List.length_map, hl]
    refine (order_any (ty S) hz).mono ?_
    rintro v S1 ⟨rfl, g1⟩
    simp only [wo_isNotB, isBl, ord_yes ho, BEq.rfl, Bool.not_true, ex_bl, Bool.false_eq_true, if_false, wo_plusAI]
    have e : ((m : Int) + 1) = ((m + 1 : Nat) : Int) := by push_cast; rfl
    rw [e]
    refine (order_any (ty S1) hz).mono ?_
    rintro v S2 ⟨rfl, g2⟩
    have no : OrdB (m + 1) (.tup (os.map nD)) = false := bad_len (by rw [List.length_map]; omega)
    simp only [no, wo_isNotB, isBl, BEq.rfl, Bool.not_true, ex_bl, Bool.false_eq_true, if_false, ws_next]
    first | exact ⟨(by first | rfl | trivial), g1.trans g2, (by first | rfl | trivial)⟩ | exact ⟨g1.trans g2, (by first | rfl | trivial)⟩ | exact g1.trans g2
  rintro l S1 ⟨g1, rfl⟩
  refine ws_cut (fun l S' => Gr S S' ∧ l = [x0, x1, some (.ref n), x3, x4, x5, x6, x7, some (.tup (os.map nD)), y9]) ?_ ?_
  · simp only [ws_if, wt_e, we_op, we_call, wa_cons, wa_nil, we_var, we_c, List.getElem?_cons_zero, List.getElem?_cons_succ, ex_some, wo_lenAT, List.length_map, hl, wo_I0]
    have e : ((m : Int) - 1) = ((m - 1 : Nat) : Int) := by omega
    rw [e]
    refine (order_any (ty S1) hz).mono ?_
    rintro v S2 ⟨rfl, g2⟩
    have no : OrdB (m - 1) (.tup (os.map nD)) = false := bad_len (by rw [List.length_map]; omega)
    simp only [no, wo_isNotB, isBl, BEq.rfl, Bool.not_true, ex_bl, Bool.false_eq_true, if_false, ws_next]
    first | exact ⟨(by first | rfl | trivial), g1.trans g2, (by first | rfl | trivial)⟩ | exact ⟨g1.trans g2, (by first | rfl | trivial)⟩ | exact g1.trans g2
  rintro l S2 ⟨g2, rfl⟩
  obtain ⟨v, S3, e3, p3, f3, q, rfl, b3⟩ := no_ok n m os S2 (h.gr g2) ho hm1 hm
  obtain ⟨ts, k1, k2, k3⟩ := b3.ex
  refine ws_forLst ts (fun i l T => Gr S3 T ∧ ∃ y9, l = [x0, x1, some (.ref n), x3, x4, x5, x6, x7, some (.tup (os.map nD)), y9]) (fun _ _ => False) (n := q) (S1 := S3) (show m_law_no_orders [.ref n, .tup (os.map nD)] S2 = _ from e3) ⟨Gr.refl _, _, rfl⟩ (fun i l T hT => hT.1.lst (lst_of k1)) ?_ ?_ (fun d l S h => h.elim)
  · rintro i t l T hti ⟨gT, y, rfl⟩
    have bt := (k3 t (List.mem_of_getElem? hti)).gr gT
    simp only [wg_name, List.set_cons_zero, List.set_cons_succ, ws_if, wt_e, we_op, we_call, wa_cons, wa_nil, we_var, we_c, List.getElem?_cons_zero, List.getElem?_cons_succ, ex_some, wo_lenAT, List.length_map, hl]
    refine (order_any bt.ty bt.len).mono ?_
    rintro v T2 ⟨rfl, gT2⟩
    simp only [bt.no, wo_isNotB, isBl, BEq.rfl, Bool.not_true, ex_bl, Bool.false_eq_true, if_false, ws_next]
    exact .inl ⟨(by first | exact .inl rfl | exact .inl trivial | trivial), gT.trans gT2, _, rfl⟩
  · rintro l' S' ⟨gT, y, rfl⟩
    exact ⟨rfl, p3.gr gT, ((Fn.gr g2).trans f3).trans (Fn.gr gT), _, rfl⟩
theorem law_true (ns : List Int) (hl : ns.length ≤ 63) : ∃ S', m_law [.ref 0] (.flst (ns.map D.int) :: tabs0 ["places"]) = some (.bl true, S') := by
  have sz1 : 1 ≤ sizeLine := by decide
  have sz3 : 3 ≤ sizeLine := by decide
  have sz0 : 0 ≤ sizeLine := by decide
  have key : Wo (m_law [.ref 0] (.flst (ns.map D.int) :: tabs0 ["places"])) fun v _ => v = .bl true := by
    unfold m_law b_law
    simp only [wo_run, List.map_cons, List.map_nil, List.length_cons, List.length_nil, Nat.reduceAdd, Nat.reduceSub, List.replicate, List.cons_append, List.nil_append]
    rw [ws_seq]
    refine ws_rngA (fun _ l S => lstOf S 0 = some (ns.map D.int) ∧ S[1]? = some (.tab "places") ∧ ∃ y1 y2 y3 y4 y5 y6 y7 y8 y9, l = [some (.ref 0), y1, y2, y3, y4, y5, y6, y7, y8, y9]) (fun _ _ => False) ?_ ?_ ?_ (fun d l S h => h.elim)
    · have h0 : lstOf (.flst (ns.map D.int) :: tabs0 ["places"]) 0 = some (ns.map D.int) := rfl
      simp only [wa_cons, wa_nil, we_call, we_var, we_c, List.getElem?_cons_zero, ex_some, wo_lenAL, h0, ex_some1, List.length_map, wo_min2, wo_max2]
      refine ⟨(if (if (12 : Int) < (ns.length : Int) then 12 else (ns.length : Int)) > 2 then (if (12 : Int) < (ns.length : Int) then 12 else (ns.length : Int)) else 2).toNat, ?_, ?_, (by first | rfl | trivial), (by first | rfl | trivial), _, _, _, _, _, _, _, _, _, rfl⟩
      · rw [Int.toNat_of_nonneg (by split <;> split <;> omega)]
      · split <;> split <;> omega
    · rintro k l S0 hk ⟨h0, t0, y1, y2, y3, y4, y5, y6, y7, y8, y9, rfl⟩
      have hn2 : 2 ≤ S0.length := by have := (List.getElem?_eq_some_iff.mp t0).1; omega
      simp only [wg_name, List.set_cons_zero, List.set_cons_succ]
      refine ws_cut (fun l S => ∃ n, lstOf S 0 = some (ns.map D.int) ∧ S[1]? = some (.tab "places") ∧ PQ n S ∧ 2 ≤ n ∧ l = [some (.ref 0), some (.int (k : Int)), some (.ref n), y3, y4, y5, y6, y7, y8, y9]) ?_ ?_
      · simp only [ws_asg, we_call, wa_cons, wa_nil, we_var, List.getElem?_cons_zero, List.getElem?_cons_succ, ex_some]
        refine (pen_ok ns k S0 h0 (by omega)).mono ?_
        rintro v S1 ⟨rfl, p1, g1⟩
        simp only [wg_name, List.set_cons_zero, List.set_cons_succ]
        first | exact ⟨(by first | rfl | trivial), S0.length, g1.lst h0, g1.get t0, p1, hn2, rfl⟩ | exact ⟨S0.length, g1.lst h0, g1.get t0, p1, hn2, rfl⟩
      rintro l S1 ⟨n, h1, t1, p1, hn, rfl⟩
      have n0 : 0 ≠ n := by omega
      have n1 : 1 ≠ n := by omega
      refine ws_cut (fun l S => lstOf S 0 = some (ns.map D.int) ∧ S[1]? = some (.tab "places") ∧ PQ n S ∧ ∃ asks rs, OkM asks rs ∧ l = [some (.ref 0), some (.int (k : Int)), some (.ref n), some (mD asks rs), y4, y5, y6, y7, y8, y9]) ?_ ?_
      · simp only [ws_asg, we_op, we_call, wa_cons, wa_nil, we_var, we_c, List.getElem?_cons_zero, List.getElem?_cons_succ, ex_some]
        refine (draw_ok n 4 S1 p1 (by decide) (by decide)).mono ?_
        rintro x S2 ⟨⟨d, rfl, hd⟩, p2, f2⟩
        have e : (1 : Int) + (d : Int) = ((1 + d : Nat) : Int) := by push_cast; rfl
        simp only [wo_plusAI, e]
        refine (machine_ok n (1 + d) S2 p2 (by omega) (by omega)).mono ?_
        rintro v S3 ⟨⟨rs, rfl, ok⟩, p3, f3⟩
        simp only [wg_name, List.set_cons_zero, List.set_cons_succ]
        first | exact ⟨(by first | rfl | trivial), f3.lst n0 (f2.lst n0 h1), f3 1 _ n1 (f2 1 _ n1 t1), p3, 1 + d, rs, ok, rfl⟩ | exact ⟨f3.lst n0 (f2.lst n0 h1), f3 1 _ n1 (f2 1 _ n1 t1), p3, 1 + d, rs, ok, rfl⟩
      rintro l S2 ⟨h2, t2, p2, asks, rs, ok, rfl⟩
      have r1 := ok.r1
      have r24 := ok.r24
      have a1 := ok.a1
      have a4 := ok.a4
      refine ws_cut (fun l S => lstOf S 0 = some (ns.map D.int) ∧ S[1]? = some (.tab "places") ∧ PQ n S ∧ ∃ p, Or rs.length p ∧ l = [some (.ref 0), some (.int (k : Int)), some (.ref n), some (mD asks rs), some (.tup (p.map nD)), y5, y6, y7, y8, y9]) ?_ ?_
      · simp only [ws_asg, we_op, we_call, wa_cons, wa_nil, we_var, we_c, List.getElem?_cons_zero, List.getElem?_cons_succ, ex_some, m_1, wo_lenAT, List.length_map]
        refine (order_ok n rs.length 1 S2 p2 r1 (by omega) (by omega)).mono ?_
        rintro v S3 ⟨⟨p, rfl, hp⟩, p3, f3⟩
        simp only [wg_name, List.set_cons_zero, List.set_cons_succ]
        first | exact ⟨(by first | rfl | trivial), f3.lst n0 h2, f3 1 _ n1 t2, p3, p, hp, rfl⟩ | exact ⟨f3.lst n0 h2, f3 1 _ n1 t2, p3, p, hp, rfl⟩
      rintro l S3 ⟨h3, t3, p3, p, hp, rfl⟩
      refine ws_cut (fun l S => lstOf S 0 = some (ns.map D.int) ∧ S[1]? = some (.tab "places") ∧ PQ n S ∧ ∃ a, Or asks a ∧ l = [some (.ref 0), some (.int (k : Int)), some (.ref n), some (mD asks rs), some (.tup (p.map nD)), some (.tup (a.map nD)), y6, y7, y8, y9]) ?_ ?_
      · simp only [ws_asg, we_op, we_call, wa_cons, wa_nil, we_var, we_c, List.getElem?_cons_zero, List.getElem?_cons_succ, ex_some, m_0]
        refine (order_ok n asks 0 S3 p3 a1 (by omega) (by omega)).mono ?_
        rintro v S4 ⟨⟨a, rfl, ha⟩, p4, f4⟩
        simp only [wg_name, List.set_cons_zero, List.set_cons_succ]
        first | exact ⟨(by first | rfl | trivial), f4.lst n0 h3, f4 1 _ n1 t3, p4, a, ha, rfl⟩ | exact ⟨f4.lst n0 h3, f4 1 _ n1 t3, p4, a, ha, rfl⟩
      rintro l S4 ⟨h4, t4, p4, a, ha, rfl⟩
      refine ws_cut (fun l S => lstOf S 0 = some (ns.map D.int) ∧ S[1]? = some (.tab "places") ∧ PQ n S ∧ ∃ b, Or 8 b ∧ l = [some (.ref 0), some (.int (k : Int)), some (.ref n), some (mD asks rs), some (.tup (p.map nD)), some (.tup (a.map nD)), some (.tup (b.map nD)), y7, y8, y9]) ?_ ?_
      · simp only [ws_asg, we_op, we_call, wa_cons, wa_nil, we_var, we_c, List.getElem?_cons_zero, List.getElem?_cons_succ, ex_some]
        refine (order_ok n 8 0 S4 p4 (by decide) (by decide) (by decide)).mono ?_
        rintro v S5 ⟨⟨b, rfl, hb⟩, p5, f5⟩
        simp only [wg_name, List.set_cons_zero, List.set_cons_succ]
        first | exact ⟨(by first | rfl | trivial), f5.lst n0 h4, f5 1 _ n1 t4, p5, b, hb, rfl⟩ | exact ⟨f5.lst n0 h4, f5 1 _ n1 t4, p5, b, hb, rfl⟩
      rintro l S5 ⟨h5, t5, p5, b, hb, rfl⟩
      refine ws_cut (fun l S => Gr S5 S ∧ l = [some (.ref 0), some (.int (k : Int)), some (.ref n), some (mD asks rs), some (.tup (p.map nD)), some (.tup (a.map nD)), some (.tup (b.map nD)), some (mD asks (ren rs p a b)), y8, y9]) ?_ ?_
      · simp only [ws_asg, we_call, wa_cons, wa_nil, we_var, List.getElem?_cons_zero, List.getElem?_cons_succ, ex_some]
        refine (renamed_ok ok hp ha hb t5).mono ?_
        rintro v S6 ⟨rfl, g6⟩
        simp only [wg_name, List.set_cons_zero, List.set_cons_succ]
        first | exact ⟨(by first | rfl | trivial), g6, rfl⟩ | exact ⟨(by first | rfl | trivial), g6, (by first | rfl | trivial)⟩ | exact ⟨g6, (by first | rfl | trivial)⟩
      rintro l S6 ⟨g6, rfl⟩
      refine ws_det (l' := [some (.ref 0), some (.int (k : Int)), some (.ref n), some (mD asks rs), some (.tup (p.map nD)), some (.tup (a.map nD)), some (.tup (b.map nD)), some (mD asks (ren rs p a b)), y8, y9]) (S' := S6) ?_ ?_
      · simp only [ws_if, wt_not, wt_e, we_call, wa_cons, wa_nil, we_var, List.getElem?_cons_zero, List.getElem?_cons_succ, ex_some]
        refine (right_ok ok hp ha hb).mono ?_
        rintro v S7 ⟨rfl, rfl⟩
        simp only [ex_bl, Bool.not_true, Bool.false_eq_true, if_false, ws_next]
        all_goals first | exact ⟨(by first | rfl | trivial), (by first | rfl | trivial), (by first | rfl | trivial)⟩ | trivial
      have o2 := ren_ok ok hp ha hb
      have rl : (ren rs p a b).length = rs.length := by rw [ren_len, hp.len]
      have hp' : Or (ren rs p a b).length (inv p) := by rw [rl]; exact hp.inv
      refine ws_cut (fun l S => Gr S5 S ∧ l = [some (.ref 0), some (.int (k : Int)), some (.ref n), some (mD asks rs), some (.tup (p.map nD)), some (.tup (a.map nD)), some (.tup (b.map nD)), some (mD asks (ren rs p a b)), y8, y9]) ?_ ?_
      · obtain ⟨z, hz⟩ := text_m ok
        simp only [ws_if, wt_e, we_op, we_call, wa_cons, wa_nil, we_var, List.getElem?_cons_zero, List.getElem?_cons_succ, ex_some]
        refine (undone_ok hp (by omega)).mono ?_
        rintro v S7 ⟨rfl, g7⟩
        refine (undone_ok ha (by omega)).mono ?_
        rintro v S8 ⟨rfl, g8⟩
        refine (undone_ok hb (by decide)).mono ?_
        rintro v S9 ⟨rfl, g9⟩
        have gg := ((g6.trans g7).trans g8).trans g9
        refine (renamed_ok o2 hp' ha.inv hb.inv (gg.get t5)).mono ?_
        rintro v S10 ⟨rfl, g10⟩
        rw [ren_back ok hp ha hb]
        simp only [hz, wo_neS, decide_true, Bool.not_true, ex_bl, Bool.false_eq_true, if_false, ws_next]
        first | exact ⟨(by first | rfl | trivial), gg.trans g10, (by first | rfl | trivial)⟩ | exact ⟨gg.trans g10, (by first | rfl | trivial)⟩ | exact gg.trans g10
      rintro l S7 ⟨g7, rfl⟩
      refine ws_forT' [.tup (p.map nD), .tup (a.map nD), .tup (b.map nD)] (fun _ l T => PQ n T ∧ Fn n S7 T ∧ ∃ y8 y9, l = [some (.ref 0), some (.int (k : Int)), some (.ref n), some (mD asks rs), some (.tup (p.map nD)), some (.tup (a.map nD)), some (.tup (b.map nD)), some (mD asks (ren rs p a b)), y8, y9]) (fun _ _ => False) (S1 := S7) ?_ ⟨p5.gr g7, Fn.refl n S7, _, _, rfl⟩ ?_ ?_ (fun d l S h => h.elim)
      · show fTup [.tup (p.map nD), .tup (a.map nD), .tup (b.map nD)] S7 = _
        unfold fTup
        exact if_pos sz3
      · rintro i x l T hx ⟨pT, fT, z8, z9, rfl⟩
        simp only [wg_name, List.set_cons_zero, List.set_cons_succ]
        have go : ∀ {m : Nat} {os : List Nat}, Or m os → 1 ≤ m → m ≤ 24 → x = .tup (os.map nD) → Ws bd8 [some (.ref 0), some (.int (k : Int)), some (.ref n), some (mD asks rs), some (.tup (p.map nD)), some (.tup (a.map nD)), some (.tup (b.map nD)), some (mD asks (ren rs p a b)), some x, z9] T fun f l2 S2 => ((f = .nx ∨ f = .ct) ∧ PQ n S2 ∧ Fn n S7 S2 ∧ ∃ y8 y9, l2 = [some (.ref 0), some (.int (k : Int)), some (.ref n), some (mD asks rs), some (.tup (p.map nD)), some (.tup (a.map nD)), some (.tup (b.map nD)), some (mD asks (ren rs p a b)), y8, y9]) ∨ ∃ d, f = .rt d ∧ False := fun {m os} o1 o2 o3 e => by
          subst e
          refine Wr.mono (bd8_ok pT o1 o2 o3) ?_
          rintro f l2 S2 ⟨rfl, p2, f2, y, rfl⟩
          exact .inl ⟨.inl rfl, p2, fT.trans f2, _, _, rfl⟩
        have hx' : i < 3 := (List.getElem?_eq_some_iff.mp hx).1
        have : i = 0 ∨ i = 1 ∨ i = 2 := by omega
        rcases this with rfl | rfl | rfl
        · cases hx; exact go hp r1 r24 rfl
        · cases hx; exact go ha a1 (by omega) rfl
        · cases hx; exact go hb (by decide) (by decide) rfl
      · rintro l' T ⟨pT, fT, z8, z9, rfl⟩
        have f5 : Fn n S5 T := (Fn.gr g7).trans fT
        exact .inl ⟨(by first | exact .inl rfl | exact .inl trivial | trivial), f5.lst n0 h5, f5 1 _ n1 t5, _, _, _, _, _, _, _, _, _, rfl⟩
    · rintro i l' S' ⟨h0, t0, y1, y2, y3, y4, y5, y6, y7, y8, y9, rfl⟩
      simp only [ws_ret, we_and, we_op, we_call, wa_cons, wa_nil, we_c, wo_tup, List.length_cons, List.length_nil, Nat.reduceAdd, sz0, sz1, true_and]
      refine (order_any (n := 0) (x := .tup []) (fun d hd => by cases hd) (fun ds e => by cases e; decide)).mono ?_
      rintro v S1 ⟨rfl, g1⟩
      have e0 : OrdB 0 (.tup []) = true := ord_yes (m := 0) (os := []) (.refl _)
      simp only [e0, wo_isB, isBl, BEq.rfl, ex_bl, if_true]
      refine (order_any (n := 1) (x := .tup [.int 0]) (fun d hd => by rw [List.mem_singleton.mp hd]; exact ⟨_, rfl⟩) (fun ds e => by cases e; decide)).mono ?_
      rintro v S2 ⟨rfl, g2⟩
      have e1 : OrdB 1 (.tup [.int 0]) = true := ord_yes (m := 1) (os := [0]) (.refl _)
      simp only [e1, wo_isB, isBl, BEq.rfl]
      all_goals first | trivial | rfl
  obtain ⟨v, S', e, rfl⟩ := key
  exact ⟨S', e⟩
end M
open PySem PySem.W PyProof.Rows
theorem PySem.Challenge.cw_opencells_k59_orders_and_names_holds : PySem.Challenge.rw_opencells_k59_orders_and_names.Holds := by
  w_on; o_law; k_head; (case hw => w_witness2)
  k_fill
  refine G.walk (l := PySem.Challenge.rw_opencells_k59_orders_and_names) rfl rfl (fun w h Y => ⟨PySem.W.km_in_of Y, PySem.W.km_tabs_of Y⟩) ?zzn (by decide) ?zzt0 ?F (fun ns hl => M.law_true ns hl)
  case zzn => intro w; kernel_rfl
  case zzt0 =>
    intro w
    refine' L3.ft_mk ?a ?l ?e ?k ?h ?d; (case a => k_is); (case l => k_is); (case e => exact rfl); (case k => k_is); (case h => exact rfl); (case d => kernel_rfl)
  case F =>
    intro w mg fa h KX GN hmg
    refine' G.all_mk KX GN hmg ?_ ?_ ?_ ?_ ?_ ?_ ?_ ?_ ?_ ?_ ?_ ?_ ?_ ?_ ?_ ?_ ?_ ?_ ?_ ?_ ?_ ?_ ?_ ?_ ?_ ?_ ?_ ?_ ?_ ?_ ?_
    rotate_right; (refine' Exists.intro _ (L3.ft_mk ?a ?l ?e ?k ?h ?d); (case a => k_is); (case l => k_is); (case e => exact rfl); (case k => k_is); (case h => exact rfl); (case d => kernel_rfl))
    all_goals try first | (refine' G.FI.mk ?a ?l ?c ?k; (case a => k_is); (case l => k_is); (case c => k_is); (case k => k_is)) | k_is
