import PyProof.Rows.All
import Wide.All
import OpenK.AllK
import Wide.FinOn
import Lean
import PyProof.EqAt
import PyProof.EqKinds
import PyProof.TupleCall
import PyProof.ReprLen
import PyProof.ReprRoads
import PyProof.P3Eq
import PyProof.SetRoads
import PyProof.IsRules
import PyProof.ListRange
import PyProof.ConsumeWalk
import PyProof.NeKinds
import PyProof.DictTable
import PyProof.Draws
import PyProof.EnumMake
import KE.BitLaws
import KE.KIntText
import KE.KRevIter
import PyProof.Rows.SumAny
import PyProof.StrLawsRepr
import PyProof.Rows.SortStrRead
import PyProof.DictCompW
import PyProof.StrOps2
import PyProof.DictWalks
import OpenK.KOwn
import PyProof.NsDelKeeps
import PyProof.RulesAs
import KE.KIsAll
import PyProof.ExcArgsOwn
import PyProof.ExcAttrAll.ValueError
import PyProof.TupleKey
import PyProof.DictRoadsH
import PySem.Challenge.RW_opencells_k06_rows_that_part
set_option Elab.async false
set_option maxHeartbeats 4000000
set_option maxRecDepth 100000
set_option linter.unusedSimpArgs false
set_option linter.unusedVariables false
set_option Elab.async false
set_option maxHeartbeats 4000000
namespace TS
open PySem PySem.SetTable
def F : Nat → Nat → Nat
  | 0, x => x
  | n + 1, x => 5 * F n x + 1
theorem F_add (a : Nat) : ∀ (b x : Nat), F (a + b) x = F a (F b x) := by
  induction a with
  | zero => intro b x; rw [Nat.zero_add]; rfl
  | succ a ih => intro b x; rw [show a + 1 + b = (a + b) + 1 by omega]; show 5 * F (a + b) x + 1 = 5 * F a (F b x) + 1; rw [ih]
theorem F_lin (k : Nat) : ∃ u, ∀ x, F (2 ^ k) x = (4 * (2 ^ k * (2 * u + 1)) + 1) * x + 2 ^ k * (2 * u + 1) := by
  induction k with
  | zero => exact ⟨0, fun x => by show 5 * x + 1 = _; omega⟩
  | succ k ih =>
    obtain ⟨u, h⟩ := ih
    generalize hB : 2 ^ k * (2 * u + 1) = B at h
    refine ⟨2 * u * B + u + B, fun x => ?_⟩
    have e : 2 ^ (k + 1) = 2 ^ k + 2 ^ k := by rw [Nat.pow_succ]; omega
    rw [show F (2 ^ (k + 1)) x = F (2 ^ k) (F (2 ^ k) x) by rw [e]; exact F_add _ _ _, h, h]
    have e2 : 2 ^ (k + 1) * (2 * (2 * u * B + u + B) + 1) = 2 * B * (2 * B + 1) := by
      rw [Nat.pow_succ, ← hB]
      generalize 2 ^ k = p
      grind
    rw [e2]
    clear e2 h hB
    grind
theorem mod_two {M a b : Nat} (hM : 0 < M) (h : a % M = b % M) (h2 : a % (2 * M) ≠ b % (2 * M)) : (a + M) % (2 * M) = b % (2 * M) := by
  have key : ∀ x, x % (2 * M) = x % M ∨ x % (2 * M) = x % M + M := fun x => by
    have e1 : x % (2 * M) < 2 * M := Nat.mod_lt _ (by omega)
    have e2 : x % (2 * M) % M = x % M := Nat.mod_mod_of_dvd x ⟨2, Nat.mul_comm _ _⟩
    by_cases hl : x % (2 * M) < M
    · left; rw [← e2, Nat.mod_eq_of_lt hl]
    · right
      have e3 : x % (2 * M) % M = (x % (2 * M) - M) % M := Nat.mod_eq_sub_mod (by omega)
      have e4 : (x % (2 * M) - M) % M = x % (2 * M) - M := Nat.mod_eq_of_lt (by omega)
      rw [← e2, e3, e4]; omega
  have hb := Nat.mod_lt b hM
  rw [Nat.add_mod, Nat.mod_eq_of_lt (show M < 2 * M by omega)]
  rcases key a with ha | ha <;> rcases key b with hb2 | hb2
  · omega
  · rw [ha, Nat.mod_eq_of_lt (by omega)]; omega
  · rw [ha, hb2, show a % M + M + M = a % M + 2 * M by omega, Nat.add_mod_right, Nat.mod_eq_of_lt (by omega)]; omega
  · omega
theorem F_surj (k : Nat) : ∀ x y : Nat, ∃ n, n < 2 ^ k ∧ F n x % 2 ^ k = y % 2 ^ k := by
  induction k with
  | zero => intro x y; exact ⟨0, by decide, by simp [Nat.mod_one]⟩
  | succ k ih =>
    intro x y
    obtain ⟨n, hn, h⟩ := ih x y
    have e : 2 ^ (k + 1) = 2 * 2 ^ k := by rw [Nat.pow_succ, Nat.mul_comm]
    have hM : 0 < 2 ^ k := Nat.two_pow_pos k
    rw [e]
    by_cases h2 : F n x % (2 * 2 ^ k) = y % (2 * 2 ^ k)
    · exact ⟨n, by omega, h2⟩
    · refine ⟨2 ^ k + n, by omega, ?_⟩
      obtain ⟨u, hl⟩ := F_lin k
      rw [F_add, hl]
      generalize F n x = z at h h2
      generalize 2 ^ k = M at *
      have e3 : (4 * (M * (2 * u + 1)) + 1) * z + M * (2 * u + 1) = z + M + 2 * M * (u + 2 * z * (2 * u + 1)) := by
        grind
      rw [e3, Nat.add_mul_mod_self_left]
      exact mod_two hM h h2
def adv (mask : Nat) (p : Probe) : Probe :=
  if p.more > 0 then { p with j := p.j + 1, more := p.more - 1 } else
  let (i, perturb) := leap mask p.i p.perturb
  { p with j := i, more := runEnd mask i - i, i, perturb }
theorem advance_eq (t : SetTable) (p : Probe) : t.advance p = adv t.mask p := rfl
def st0 (mask : Nat) (h : Int) : Probe := { j := bits h % (mask + 1), more := runEnd mask (bits h % (mask + 1)) - bits h % (mask + 1), i := bits h % (mask + 1), perturb := bits h, dummy := none }
def pn (mask : Nat) (h : Int) : Nat → Probe
  | 0 => st0 mask h
  | n + 1 => adv mask (pn mask h n)
def bl (mask : Nat) (h : Int) : Nat → Nat × Nat
  | 0 => (bits h % (mask + 1), bits h)
  | n + 1 => leap mask (bl mask h n).1 (bl mask h n).2
def ss (mask : Nat) (h : Int) : Nat → Nat
  | 0 => 0
  | n + 1 => ss mask h n + (runEnd mask (bl mask h n).1 - (bl mask h n).1) + 1
def blk (mask : Nat) (b : Nat × Nat) : Probe := { j := b.1, more := runEnd mask b.1 - b.1, i := b.1, perturb := b.2, dummy := none }
theorem pn_in {mask : Nat} {h : Int} {s : Nat} {b : Nat × Nat} (e : pn mask h s = blk mask b) : ∀ d, d ≤ runEnd mask b.1 - b.1 → pn mask h (s + d) = { j := b.1 + d, more := runEnd mask b.1 - b.1 - d, i := b.1, perturb := b.2, dummy := none }
  | 0, _ => by rw [Nat.add_zero, e]; rfl
  | d + 1, hd => by
    show adv mask (pn mask h (s + d)) = _
    rw [pn_in e d (by omega)]
    unfold adv
    rw [if_pos (by show runEnd mask b.1 - b.1 - d > 0; omega)]
    simp only [Probe.mk.injEq, and_true]
    exact ⟨by omega, by omega⟩
theorem pn_ss (mask : Nat) (h : Int) : ∀ n, pn mask h (ss mask h n) = blk mask (bl mask h n)
  | 0 => rfl
  | n + 1 => by
    have e := pn_in (pn_ss mask h n) (runEnd mask (bl mask h n).1 - (bl mask h n).1) (Nat.le_refl _)
    show adv mask (pn mask h (ss mask h n + (runEnd mask (bl mask h n).1 - (bl mask h n).1))) = _
    rw [e]
    unfold adv
    rw [if_neg (by show ¬ (runEnd mask (bl mask h n).1 - (bl mask h n).1 - (runEnd mask (bl mask h n).1 - (bl mask h n).1)) > 0; omega)]
    rfl
theorem runEnd_le (mask i : Nat) : runEnd mask i - i ≤ 9 := by unfold runEnd; split <;> omega
theorem ss_le (mask : Nat) (h : Int) : ∀ n, ss mask h n ≤ 10 * n
  | 0 => Nat.le_refl _
  | n + 1 => by have := ss_le mask h n; have := runEnd_le mask (bl mask h n).1; show ss mask h n + _ + 1 ≤ _; omega
theorem bl_per (mask : Nat) (h : Int) : ∀ n, (bl mask h n).2 = bits h / 32 ^ n
  | 0 => by show bits h = _; simp
  | n + 1 => by show (bl mask h n).2 / 32 = _; rw [bl_per mask h n, Nat.div_div_eq_div_mul, Nat.pow_succ]
theorem bits_lt (h : Int) : bits h < 2 ^ 64 := by
  unfold bits
  have h1 := Int.emod_nonneg h (show (2 ^ 64 : Int) ≠ 0 by decide)
  have h2 := Int.emod_lt_of_pos h (show (0 : Int) < 2 ^ 64 by decide)
  omega
theorem bl_zero (mask : Nat) (h : Int) (n : Nat) : (bl mask h (13 + n)).2 = 0 := by
  rw [bl_per]
  apply Nat.div_eq_of_lt
  have := bits_lt h
  have e : 2 ^ 65 ≤ 32 ^ (13 + n) := by
    rw [Nat.pow_add, show (32 : Nat) ^ 13 = 2 ^ 65 by decide]
    exact Nat.le_mul_of_pos_right _ (Nat.pow_pos (by decide))
  have : (2 : Nat) ^ 64 < 2 ^ 65 := by decide
  omega
theorem bl_lt (mask : Nat) (h : Int) : ∀ n, (bl mask h n).1 ≤ mask
  | 0 => by have := Nat.mod_lt (bits h) (show 0 < mask + 1 by omega); show bits h % (mask + 1) ≤ mask; omega
  | n + 1 => by have := Nat.mod_lt ((bl mask h n).1 * 5 + 1 + (bl mask h n).2 / 32) (show 0 < mask + 1 by omega); show ((bl mask h n).1 * 5 + 1 + (bl mask h n).2 / 32) % (mask + 1) ≤ mask; omega
theorem bl_F (mask : Nat) (h : Int) : ∀ n, (bl mask h (13 + n)).1 = F n (bl mask h 13).1 % (mask + 1)
  | 0 => by have := bl_lt mask h 13; exact (Nat.mod_eq_of_lt (by show (bl mask h 13).1 < mask + 1; omega)).symm
  | n + 1 => by
    show ((bl mask h (13 + n)).1 * 5 + 1 + (bl mask h (13 + n)).2 / 32) % (mask + 1) = (5 * F n _ + 1) % (mask + 1)
    rw [bl_F mask h n, bl_zero, Nat.zero_div, Nat.add_zero, Nat.mul_comm (F n _ % (mask + 1)) 5]
    rw [Nat.add_mod, Nat.mul_mod, Nat.mod_mod, ← Nat.mul_mod, ← Nat.add_mod]
theorem reach {mask k : Nat} (hk : mask + 1 = 2 ^ k) (h : Int) {e : Nat} (he : e ≤ mask) : ∃ n, n < mask + 14 ∧ (bl mask h n).1 = e := by
  obtain ⟨n, hn, hf⟩ := F_surj k (bl mask h 13).1 e
  refine ⟨13 + n, by omega, ?_⟩
  rw [bl_F, hk, hf, ← hk]
  exact Nat.mod_eq_of_lt (by omega)
theorem runEnd_in {mask i : Nat} (h : i ≤ mask) : runEnd mask i ≤ mask := by unfold runEnd; split <;> omega
theorem pn_le (mask : Nat) (h : Int) (n : Nat) : (pn mask h n).j ≤ mask ∧ (pn mask h n).j + (pn mask h n).more ≤ mask ∧ (pn mask h n).dummy = none := by
  induction n with
  | zero =>
    have h1 : bits h % (mask + 1) ≤ mask := by have := Nat.mod_lt (bits h) (show 0 < mask + 1 by omega); omega
    have h2 := runEnd_in h1
    refine ⟨h1, ?_, rfl⟩
    show bits h % (mask + 1) + (runEnd mask (bits h % (mask + 1)) - bits h % (mask + 1)) ≤ mask
    omega
  | succ n ih =>
    obtain ⟨i1, i2, i3⟩ := ih
    show (adv mask (pn mask h n)).j ≤ mask ∧ (adv mask (pn mask h n)).j + (adv mask (pn mask h n)).more ≤ mask ∧ (adv mask (pn mask h n)).dummy = none
    unfold adv
    by_cases hm : (pn mask h n).more > 0
    · rw [if_pos hm]
      exact ⟨by show (pn mask h n).j + 1 ≤ mask; omega, by show (pn mask h n).j + 1 + ((pn mask h n).more - 1) ≤ mask; omega, i3⟩
    · rw [if_neg hm]
      have h1 : (leap mask (pn mask h n).i (pn mask h n).perturb).1 ≤ mask := by
        have := Nat.mod_lt ((pn mask h n).i * 5 + 1 + (pn mask h n).perturb / 32) (show 0 < mask + 1 by omega)
        show ((pn mask h n).i * 5 + 1 + (pn mask h n).perturb / 32) % (mask + 1) ≤ mask
        omega
      have h2 := runEnd_in h1
      exact ⟨h1, by show (leap mask (pn mask h n).i (pn mask h n).perturb).1 + (runEnd mask (leap mask (pn mask h n).i (pn mask h n).perturb).1 - (leap mask (pn mask h n).i (pn mask h n).perturb).1) ≤ mask; omega, i3⟩
end TS
set_option Elab.async false
set_option maxHeartbeats 4000000
namespace TS
open PySem PySem.SetTable
def Ris (xs : Array Nat) : Prop := ∀ i j, i < j → j < xs.size → xs.getD i 0 < xs.getD j 0
theorem getD_any {xs : Array Nat} {i : Nat} (h : i < xs.size) (d e : Nat) : xs.getD i d = xs.getD i e := by simp [Array.getD, h]
theorem getD_get {xs : Array Nat} {i : Nat} (h : i < xs.size) (d : Nat) : xs[i]? = some (xs.getD i d) := by simp [Array.getD, h]
theorem get_getD {xs : Array Nat} {i j : Nat} (h : xs[i]? = some j) (d : Nat) : i < xs.size ∧ xs.getD i d = j := by
  obtain ⟨h1, h2⟩ := Array.getElem?_eq_some_iff.mp h
  exact ⟨h1, by simp [Array.getD, h1, h2]⟩
theorem below_go {xs : Array Nat} (hr : Ris xs) (j : Nat) : ∀ (fuel lo hi : Nat), lo ≤ hi → hi ≤ xs.size → hi - lo ≤ fuel → (∀ i, i < lo → xs.getD i 0 < j) → (∀ i, hi ≤ i → i < xs.size → j ≤ xs.getD i 0) →
    below.go xs j fuel lo hi ≤ xs.size ∧ (∀ i, i < below.go xs j fuel lo hi → xs.getD i 0 < j) ∧ ∀ i, below.go xs j fuel lo hi ≤ i → i < xs.size → j ≤ xs.getD i 0 := by
  intro fuel
  induction fuel with
  | zero =>
    intro lo hi h1 h2 h3 h4 h5
    have e : lo = hi := by omega
    subst e
    exact ⟨h2, h4, h5⟩
  | succ fuel ih =>
    intro lo hi h1 h2 h3 h4 h5
    unfold below.go
    by_cases hl : lo < hi
    · rw [if_pos hl]
      dsimp only
      have hm1 : (lo + hi) / 2 < hi := by omega
      have hm2 : lo ≤ (lo + hi) / 2 := by omega
      have hms : (lo + hi) / 2 < xs.size := by omega
      rw [getD_any hms j 0]
      by_cases hx : xs.getD ((lo + hi) / 2) 0 < j
      · rw [if_pos hx]
        refine ih _ _ (by omega) h2 (by omega) (fun i hi' => ?_) h5
        by_cases e : i = (lo + hi) / 2
        · rw [e]; exact hx
        · exact Nat.lt_trans (hr i _ (by omega) hms) hx
      · rw [if_neg hx]
        refine ih _ _ hm2 (by omega) (by omega) h4 fun i hi1 hi2 => ?_
        by_cases e : i = (lo + hi) / 2
        · rw [e]; omega
        · have := hr ((lo + hi) / 2) i (by omega) hi2
          omega
    · rw [if_neg hl]
      have e : lo = hi := by omega
      subst e
      exact ⟨h2, h4, h5⟩
theorem below_ok {xs : Array Nat} (hr : Ris xs) (j : Nat) : below xs j ≤ xs.size ∧ (∀ i, i < below xs j → xs.getD i 0 < j) ∧ ∀ i, below xs j ≤ i → i < xs.size → j ≤ xs.getD i 0 :=
  below_go hr j xs.size 0 xs.size (Nat.zero_le _) (Nat.le_refl _) (by omega) (fun i h => absurd h (Nat.not_lt_zero _)) fun i h1 h2 => by omega
theorem below_at {xs : Array Nat} (hr : Ris xs) {i j : Nat} (h : xs[i]? = some j) : below xs j = i := by
  obtain ⟨h1, h2⟩ := get_getD h 0
  obtain ⟨b1, b2, b3⟩ := below_ok hr j
  rcases Nat.lt_trichotomy (below xs j) i with hl | hl | hl
  · have := b3 (below xs j) (Nat.le_refl _) (by omega)
    have := hr _ _ hl h1
    omega
  · exact hl
  · have := b2 i hl
    omega
theorem slot_live {t : SetTable} (hr : Ris t.place) {i j : Nat} (h : t.place[i]? = some j) : t.slot j = .live i := by
  unfold slot
  dsimp only
  rw [below_at hr h, if_pos (by rw [h]; simp)]
theorem slot_empty {t : SetTable} (hd : t.dummies = #[]) {j : Nat} (h : ∀ i : Nat, t.place[i]? ≠ some j) : t.slot j = .empty := by
  unfold slot
  dsimp only
  rw [if_neg (by intro z; exact h _ (by simpa using z)), if_neg (by rw [hd]; simp [has])]
def In (t : SetTable) (j : Nat) : Prop := ∃ i : Nat, t.place[i]? = some j
structure TOk (t : SetTable) (es : Array (Int × Value)) : Prop where
  dm : t.dummies = #[]
  sz : t.place.size = es.size
  pw : ∃ k, t.mask + 1 = 2 ^ k ∧ 3 ≤ k
  ris : Ris t.place
  le : ∀ j, In t j → j ≤ t.mask
  ro : es.size * 5 < t.mask * 3
  sm : t.mask < 8192
  pr : ∀ (i : Nat) (h : Int) (v : Value), es[i]? = some (h, v) → ∃ n, t.place[i]? = some (pn t.mask h n).j ∧ ∀ m, m < n → In t (pn t.mask h m).j
theorem TOk.fits {t : SetTable} {es : Array (Int × Value)} (k : TOk t es) : t.fits es.size = true := by
  unfold SetTable.fits SetTable.fill
  rw [k.dm, k.sz]
  have := k.ro
  simp
  omega
theorem TOk.gave {t : SetTable} {es : Array (Int × Value)} (k : TOk t es) : t.gaveWay = false := by
  unfold SetTable.gaveWay
  obtain ⟨n, h1, h2⟩ := k.pw
  have : (2 : Nat) ^ n % 2 = 0 := by
    obtain ⟨m, rfl⟩ : ∃ m, n = m + 1 := ⟨n - 1, by omega⟩
    rw [Nat.pow_succ]; simp
  simp
  omega
theorem pigeon : ∀ (n : Nat) (f : Nat → Option Nat) , (∀ j, j < n + 1 → ∃ i, f j = some i ∧ i < n) → (∀ j j' i, j < n + 1 → j' < n + 1 → f j = some i → f j' = some i → j = j') → False
  | 0, f, h, _ => by obtain ⟨i, _, hi⟩ := h 0 (by omega); omega
  | n + 1, f, h, inj => by
    obtain ⟨a, ha, hal⟩ := h (n + 1) (by omega)
    refine pigeon n (fun j => (f j).map fun i => if i = n then a else i) (fun j hj => ?_) fun j j' i l1 l2 h1 h2 => ?_
    · obtain ⟨i, hi, hil⟩ := h j (by omega)
      refine ⟨if i = n then a else i, by simp [hi], ?_⟩
      split
      · rename_i e
        rcases Nat.lt_or_ge a n with h' | h'
        · exact h'
        · have : a = n := by omega
          have := inj (n + 1) j n (by omega) (by omega) (by rw [ha, this]) (by rw [hi, e])
          omega
      · omega
    · cases e1 : f j with
      | none => rw [e1] at h1; cases h1
      | some i1 =>
        cases e2 : f j' with
        | none => rw [e2] at h2; cases h2
        | some i2 =>
          rw [e1] at h1; rw [e2] at h2
          have h1 : (if i1 = n then a else i1) = i := by simpa using h1
          have h2 : (if i2 = n then a else i2) = i := by simpa using h2
          by_cases c1 : i1 = n <;> by_cases c2 : i2 = n
          · exact inj j j' n (by omega) (by omega) (by rw [e1, c1]) (by rw [e2, c2])
          · rw [if_pos c1] at h1; rw [if_neg c2] at h2
            have := inj (n + 1) j' i (by omega) (by omega) (by rw [ha, h1]) (by rw [e2, h2])
            omega
          · rw [if_neg c1] at h1; rw [if_pos c2] at h2
            have := inj (n + 1) j i (by omega) (by omega) (by rw [ha, h2]) (by rw [e1, h1])
            omega
          · rw [if_neg c1] at h1; rw [if_neg c2] at h2
            exact inj j j' i (by omega) (by omega) (by rw [e1, h1]) (by rw [e2, h2])
theorem first_empty {mask k : Nat} (hk : mask + 1 = 2 ^ k) (h : Int) (P : Nat → Prop) [DecidablePred P] {e : Nat} (he : e ≤ mask) (hP : ¬ P e) :
    ∃ N b, N ≤ ss mask h b ∧ b < mask + 14 ∧ ¬ P (pn mask h N).j ∧ ∀ m, m < N → P (pn mask h m).j := by
  obtain ⟨b, hb, hbe⟩ := reach hk h he
  have h0 : ¬ P (pn mask h (ss mask h b)).j := by rw [pn_ss]; show ¬ P (bl mask h b).1; rw [hbe]; exact hP
  have least : ∀ n, ¬ P (pn mask h n).j → ∃ N, N ≤ n ∧ ¬ P (pn mask h N).j ∧ ∀ m, m < N → P (pn mask h m).j := by
    intro n
    induction n using Nat.strongRecOn with
    | _ n ih =>
      intro hn
      by_cases c : ∃ m, m < n ∧ ¬ P (pn mask h m).j
      · obtain ⟨m, hm, hp⟩ := c
        obtain ⟨N, h1, h2⟩ := ih m hm hp
        exact ⟨N, by omega, h2⟩
      · exact ⟨n, Nat.le_refl _, hn, fun m hm => Decidable.byContradiction fun z => c ⟨m, hm, z⟩⟩
  obtain ⟨N, h1, h2, h3⟩ := least _ h0
  exact ⟨N, b, h1, hb, h2, h3⟩
open Classical in
theorem TOk.empty {t : SetTable} {es : Array (Int × Value)} (k : TOk t es) (h : Int) : ∃ N, N < 10 * (t.mask + 14) ∧ ¬ In t (pn t.mask h N).j ∧ ∀ m, m < N → In t (pn t.mask h m).j := by
  obtain ⟨n, h1, h2⟩ := k.pw
  have ex : ∃ e, e ≤ t.mask ∧ ¬ In t e := by
    refine Classical.byContradiction fun hc => ?_
    have all : ∀ e, e ≤ t.mask → In t e := fun e he => Classical.byContradiction fun z => hc ⟨e, he, z⟩
    refine pigeon t.mask (fun j => if hj : In t j then some hj.choose else none) (fun j hj => ?_) fun j j' i _ _ e1 e2 => ?_
    · have hi := all j (by omega)
      refine ⟨hi.choose, dif_pos hi, ?_⟩
      have := (get_getD hi.choose_spec 0).1
      have := k.sz; have := k.ro
      omega
    · split at e1
      · rename_i hj
        split at e2
        · rename_i hj'
          have q1 := hj.choose_spec
          have q2 := hj'.choose_spec
          rw [Option.some.inj e1] at q1
          rw [Option.some.inj e2] at q2
          rw [q1] at q2
          exact Option.some.inj q2
        · cases e2
      · cases e1
  obtain ⟨e, he, hne⟩ := ex
  obtain ⟨N, b, h3, h4, h5, h6⟩ := first_empty h1 h (In t) he hne
  have := ss_le t.mask h b
  exact ⟨N, by omega, h5, h6⟩
theorem go_ok {t : SetTable} {es : Array (Int × Value)} (k : TOk t es) (h : Int) {N : Nat} (hN : ¬ In t (pn t.mask h N).j) (hl : ∀ m, m < N → In t (pn t.mask h m).j) (ha : Nat → Int) :
    ∀ (fuel m : Nat), m ≤ N → N - m < fuel →
      (∃ m' i, m ≤ m' ∧ m' < N ∧ t.place[i]? = some (pn t.mask h m').j ∧ ha i = h ∧ (∀ m'' i', m ≤ m'' → m'' < m' → t.place[i']? = some (pn t.mask h m'').j → ha i' ≠ h) ∧
        probe.go t ha h fuel (pn t.mask h m) = some (.candidate (pn t.mask h m').j i (pn t.mask h (m' + 1)))) ∨
      ((∀ m'' i', m ≤ m'' → m'' < N → t.place[i']? = some (pn t.mask h m'').j → ha i' ≠ h) ∧ probe.go t ha h fuel (pn t.mask h m) = some (.empty (pn t.mask h N).j none)) := by
  intro fuel
  induction fuel with
  | zero => intro m h1 h2; omega
  | succ fuel ih =>
    intro m h1 h2
    unfold probe.go
    rcases Nat.lt_or_ge m N with hm | hm
    · obtain ⟨i, hi⟩ := hl m hm
      rw [slot_live k.ris hi]
      dsimp only
      by_cases e : ha i = h
      · rw [if_pos (by simpa using e)]
        exact .inl ⟨m, i, Nat.le_refl _, hm, hi, e, fun m'' i' q1 q2 => by omega, rfl⟩
      · rw [if_neg (by simpa using e), advance_eq]
        show _ ∨ (_ ∧ probe.go t ha h fuel (pn t.mask h (m + 1)) = _)
        have here : ∀ i', t.place[i']? = some (pn t.mask h m).j → ha i' ≠ h := fun i' hi' => by
          have e1 := below_at k.ris hi
          have e2 := below_at k.ris hi'
          rw [e1] at e2
          rw [← e2]; exact e
        rcases ih (m + 1) hm (by omega) with ⟨m', i', q1, q2, q3, q4, q5, q6⟩ | ⟨q1, q2⟩
        · refine .inl ⟨m', i', by omega, q2, q3, q4, fun m'' i'' r1 r2 r3 => ?_, q6⟩
          by_cases c : m'' = m
          · subst c; exact here i'' r3
          · exact q5 m'' i'' (by omega) r2 r3
        · refine .inr ⟨fun m'' i'' r1 r2 r3 => ?_, q2⟩
          by_cases c : m'' = m
          · subst c; exact here i'' r3
          · exact q1 m'' i'' (by omega) r2 r3
    · have e : m = N := by omega
      subst e
      rw [slot_empty k.dm fun i hi => hN ⟨i, hi⟩]
      exact .inr ⟨fun m'' i' q1 q2 => by omega, by rw [(pn_le t.mask h m).2.2]⟩
end TS
set_option Elab.async false
set_option maxHeartbeats 4000000
namespace TS
open PySem PySem.SetTable
theorem get_ins {α : Type} {xs : Array α} {p : Nat} {x : α} (hp : p ≤ xs.size) (i : Nat) : (insertAt xs p x)[i]? = if i < p then xs[i]? else if i = p then some x else xs[i - 1]? := by
  rw [← Array.getElem?_toList, toList_insertAt]
  have hl : (xs.toList.take p).length = p := by rw [List.length_take, Array.length_toList]; omega
  by_cases h1 : i < p
  · rw [if_pos h1, List.getElem?_append_left (by omega), List.getElem?_take_of_lt h1, Array.getElem?_toList]
  · rw [if_neg h1, List.getElem?_append_right (by omega), hl]
    by_cases h2 : i = p
    · rw [if_pos h2, h2, Nat.sub_self]; rfl
    · rw [if_neg h2, show i - p = (i - p - 1) + 1 by omega, List.getElem?_cons_succ, List.getElem?_drop, Array.getElem?_toList]
      congr 1; omega
theorem size_ins {α : Type} {xs : Array α} {p : Nat} {x : α} : (insertAt xs p x).size = xs.size + 1 := by
  rw [← Array.length_toList, (insertAt_perm xs p x).length_eq]; simp
theorem has_nil (j : Nat) : has #[] j = false := by simp [has]
theorem put_eq {t : SetTable} (hd : t.dummies = #[]) (j : Nat) : t.put j = ({ t with place := insertAt t.place (below t.place j) j }, below t.place j) := by
  unfold put
  rw [hd, has_nil]
  cases t
  simp only at hd
  subst hd
  rfl
theorem ins_in {t : SetTable} (hr : Ris t.place) (j : Nat) (x : Nat) : In { t with place := insertAt t.place (below t.place j) j } x ↔ x = j ∨ In t x := by
  have hb := (below_ok hr j).1
  constructor
  · rintro ⟨i, hi⟩
    have hi : (insertAt t.place (below t.place j) j)[i]? = some x := hi
    rw [get_ins hb] at hi
    split at hi
    · exact .inr ⟨i, hi⟩
    · split at hi
      · exact .inl (Option.some.inj hi).symm
      · exact .inr ⟨_, hi⟩
  · rintro (rfl | ⟨i, hi⟩)
    · refine ⟨below t.place x, ?_⟩
      show (insertAt t.place (below t.place x) x)[_]? = some x
      rw [get_ins hb, if_neg (Nat.lt_irrefl _), if_pos rfl]
    · by_cases c : i < below t.place j
      · exact ⟨i, by show (insertAt t.place (below t.place j) j)[i]? = some x; rw [get_ins hb, if_pos c]; exact hi⟩
      · exact ⟨i + 1, by show (insertAt t.place (below t.place j) j)[i + 1]? = some x; rw [get_ins hb, if_neg (by omega), if_neg (by omega)]; exact hi⟩
theorem ins_ris {xs : Array Nat} (hr : Ris xs) {j : Nat} (hj : ∀ i : Nat, xs[i]? ≠ some j) : Ris (insertAt xs (below xs j) j) := by
  obtain ⟨b1, b2, b3⟩ := below_ok hr j
  have b4 : ∀ i, below xs j ≤ i → i < xs.size → j < xs.getD i 0 := fun i h1 h2 => by
    have := b3 i h1 h2
    have : xs.getD i 0 ≠ j := fun e => hj i (by rw [getD_get h2 0, e])
    omega
  have g : ∀ i, i < (insertAt xs (below xs j) j).size → (insertAt xs (below xs j) j).getD i 0 = if i < below xs j then xs.getD i 0 else if i = below xs j then j else xs.getD (i - 1) 0 := fun i hi => by
    have q := get_ins (x := j) b1 i
    rw [getD_get hi 0] at q
    rw [size_ins] at hi
    split at q
    · rename_i c; rw [if_pos c]; exact ((get_getD q.symm 0).2).symm
    · rename_i c
      rw [if_neg c]
      split at q
      · rename_i c2; rw [if_pos c2]; exact Option.some.inj q
      · rename_i c2; rw [if_neg c2]; exact ((get_getD q.symm 0).2).symm
  intro a b hab hb
  rw [g a (by omega), g b hb]
  rw [size_ins] at hb
  by_cases c1 : a < below xs j
  · rw [if_pos c1]
    by_cases c2 : b < below xs j
    · rw [if_pos c2]; exact hr a b hab (by omega)
    · rw [if_neg c2]
      have := b2 a c1
      by_cases c3 : b = below xs j
      · rw [if_pos c3]; exact this
      · rw [if_neg c3]
        have := b4 (b - 1) (by omega) (by omega)
        omega
  · rw [if_neg c1, if_neg (show ¬ b < below xs j by omega), if_neg (show ¬ b = below xs j by omega)]
    by_cases c3 : a = below xs j
    · rw [if_pos c3]; exact b4 (b - 1) (by omega) (by omega)
    · rw [if_neg c3]; exact hr (a - 1) (b - 1) (by omega) (by omega)
theorem TOk.put {t : SetTable} {es : Array (Int × Value)} (k : TOk t es) {h : Int} {x : Value} {N : Nat} (hN : ¬ In t (pn t.mask h N).j) (hl : ∀ m, m < N → In t (pn t.mask h m).j) (hro : (es.size + 1) * 5 < t.mask * 3) :
    TOk (t.put (pn t.mask h N).j).1 (insertAt es (t.put (pn t.mask h N).j).2 (h, x)) := by
  rw [put_eq k.dm]
  have hb := (below_ok k.ris (pn t.mask h N).j).1
  have hbe := hb
  rw [k.sz] at hbe
  have inn := ins_in k.ris (pn t.mask h N).j
  refine ⟨k.dm, ?_, k.pw, ins_ris k.ris fun i hi => hN ⟨i, hi⟩, fun j hj => ?_, ?_, k.sm, fun i h' v hi => ?_⟩
  · show (insertAt t.place _ _).size = (insertAt es _ _).size
    rw [size_ins, size_ins, k.sz]
  · rcases (inn j).mp hj with rfl | hj
    · exact (pn_le _ _ _).1
    · exact k.le j hj
  · rw [size_ins]; exact hro
  · rw [get_ins hbe] at hi
    show ∃ n, (insertAt t.place (below t.place (pn t.mask h N).j) (pn t.mask h N).j)[i]? = some (pn t.mask h' n).j ∧ _
    rw [get_ins hb]
    have up : ∀ n, (∀ m, m < n → In t (pn t.mask h' m).j) → ∀ m, m < n → In { t with place := insertAt t.place (below t.place (pn t.mask h N).j) (pn t.mask h N).j } (pn t.mask h' m).j := fun n q m hm => (inn _).mpr (.inr (q m hm))
    split at hi
    · rename_i c
      rw [if_pos c]
      obtain ⟨n, e1, e2⟩ := k.pr i h' v hi
      exact ⟨n, e1, up n e2⟩
    · rename_i c
      rw [if_neg c]
      split at hi
      · rename_i c2
        rw [if_pos c2]
        cases hi
        exact ⟨N, rfl, up N hl⟩
      · rename_i c2
        rw [if_neg c2]
        obtain ⟨n, e1, e2⟩ := k.pr _ h' v hi
        exact ⟨n, e1, up n e2⟩
theorem TOk.plain {t : SetTable} {es : Array (Int × Value)} (k : TOk t es) (b : Bool) : TOk { t with plain := b } es := ⟨k.dm, k.sz, k.pw, k.ris, k.le, k.ro, k.sm, k.pr⟩
theorem sa_go (n : Nat) : ∀ (fuel k : Nat), n < 2 ^ (k + fuel) → ∃ k', k ≤ k' ∧ sizeAbove.go n fuel (2 ^ k) = 2 ^ k' ∧ n < 2 ^ k' ∧ (k' = k ∨ 2 ^ k' ≤ 2 * n) := by
  intro fuel
  induction fuel with
  | zero => intro k h; exact ⟨k, Nat.le_refl _, rfl, h, .inl rfl⟩
  | succ fuel ih =>
    intro k h
    unfold sizeAbove.go
    by_cases c : 2 ^ k ≤ n
    · rw [if_pos c, ← Nat.pow_succ]
      obtain ⟨k', h1, h2, h3, h4⟩ := ih (k + 1) (by rw [show k + 1 + fuel = k + (fuel + 1) by omega]; exact h)
      refine ⟨k', by omega, h2, h3, .inr ?_⟩
      rcases h4 with rfl | h4
      · rw [Nat.pow_succ]; omega
      · exact h4
    · rw [if_neg c]
      exact ⟨k, Nat.le_refl _, rfl, by omega, .inl rfl⟩
theorem sa_ok {n : Nat} (h : n ≤ 4000) : ∃ k, 3 ≤ k ∧ sizeAbove n = 2 ^ k ∧ n < 2 ^ k ∧ 2 ^ k ≤ 8000 := by
  obtain ⟨k', h1, h2, h3, h4⟩ := sa_go n 64 3 (Nat.lt_of_le_of_lt h (by decide))
  refine ⟨k', h1, h2, h3, ?_⟩
  rcases h4 with rfl | h4
  · decide
  · omega
def Occ (ow : Array (Option Nat)) (j : Nat) : Prop := ∃ i, ow[j]? = some (some i)
instance (ow : Array (Option Nat)) : DecidablePred (Occ ow) := fun j => match h : ow[j]? with
  | some (some i) => .isTrue ⟨i, h⟩
  | some none => .isFalse fun ⟨i, z⟩ => by rw [h] at z; cases z
  | none => .isFalse fun ⟨i, z⟩ => by rw [h] at z; cases z
theorem occ_getD {ow : Array (Option Nat)} {j : Nat} (hj : j < ow.size) : (ow.getD j (some 0)).isNone = !decide (Occ ow j) := by
  have e : ow[j]? = some ow[j] := Array.getElem?_eq_getElem hj
  have e2 : ow.getD j (some 0) = ow[j] := by simp [Array.getD, hj]
  rw [e2]
  cases c : ow[j] with
  | none =>
    rw [decide_eq_false (fun ⟨i, z⟩ => by rw [e, c] at z; cases z)]; rfl
  | some i =>
    rw [decide_eq_true (show Occ ow j from ⟨i, by rw [e, c]⟩)]; rfl
theorem find_range {P : Nat → Bool} : ∀ (n d : Nat), d < n → P d = true → (∀ k, k < d → P k = false) → (List.range n).find? P = some d := by
  intro n d hd hp hb
  rw [List.find?_range_eq_some]
  exact ⟨hp, by simpa using hd, fun j hj => by simpa using hb j hj⟩
theorem free_ok {mask : Nat} {h : Int} {ow : Array (Option Nat)} (hs : ow.size = mask + 1) {N b : Nat} (hN : ¬ Occ ow (pn mask h N).j) (hl : ∀ m, m < N → Occ ow (pn mask h m).j) (hb : N ≤ ss mask h b) :
    ∀ (fuel n : Nat), n ≤ b → b - n < fuel → ss mask h n ≤ N → layClean.free mask ow fuel (bl mask h n).1 (bl mask h n).2 = some (pn mask h N).j := by
  intro fuel
  induction fuel with
  | zero => intro n h1 h2; omega
  | succ fuel ih =>
    intro n h1 h2 h3
    have hil := bl_lt mask h n
    have hre : (bl mask h n).1 ≤ runEnd mask (bl mask h n).1 := by unfold runEnd; split <;> omega
    have hrm := runEnd_in hil
    have at' : ∀ d, d ≤ runEnd mask (bl mask h n).1 - (bl mask h n).1 → (pn mask h (ss mask h n + d)).j = (bl mask h n).1 + d := fun d hd => by rw [pn_in (pn_ss mask h n) d hd]
    unfold layClean.free
    by_cases c : N - ss mask h n ≤ runEnd mask (bl mask h n).1 - (bl mask h n).1
    · have e := at' _ c
      rw [show ss mask h n + (N - ss mask h n) = N by omega] at e
      rw [find_range _ (N - ss mask h n) (by omega) (by rw [occ_getD (by omega), ← e, decide_eq_false hN]; rfl) fun k hk => by
        rw [occ_getD (by omega), ← at' k (by omega), decide_eq_true (hl _ (by omega))]; rfl]
      rw [e]
    · have hn : (List.range (runEnd mask (bl mask h n).1 + 1 - (bl mask h n).1)).find? (fun k => (ow.getD ((bl mask h n).1 + k) (some 0)).isNone) = none := by
        rw [List.find?_eq_none]
        intro k hk
        have hk := List.mem_range.mp hk
        rw [occ_getD (by omega), ← at' k (by omega), decide_eq_true (hl _ (by omega))]
        simp
      rw [hn]
      show layClean.free mask ow fuel (bl mask h (n + 1)).1 (bl mask h (n + 1)).2 = _
      have hnb : n ≠ b := fun e => by subst e; omega
      exact ih (n + 1) (by omega) (by omega) (by show ss mask h n + _ + 1 ≤ N; omega)
structure Own (mask : Nat) (ow : Array (Option Nat)) (hs : List Int) : Prop where
  size : ow.size = mask + 1
  pr : ∀ (j i : Nat), ow[j]? = some (some i) → ∃ h, hs[i]? = some h ∧ ∃ n, (pn mask h n).j = j ∧ ∀ m, m < n → Occ ow (pn mask h m).j
  all : ∀ i, i < hs.length → ∃ j : Nat, ow[j]? = some (some i)
  inj : ∀ (j j' i : Nat), ow[j]? = some (some i) → ow[j']? = some (some i) → j = j'
theorem set_get {ow : Array (Option Nat)} {j i : Nat} {x : Option Nat} (hj : j < ow.size) : (ow.setIfInBounds j x)[i]? = if i = j then some x else ow[i]? := by
  rw [Array.getElem?_setIfInBounds]
  by_cases c : j = i
  · subst c; simp [hj]
  · rw [if_neg c, if_neg (fun e => c e.symm)]
theorem Own.step {mask k : Nat} (hk : mask + 1 = 2 ^ k) {ow : Array (Option Nat)} {hs : List Int} (o : Own mask ow hs) (h : Int) (hl : hs.length < mask + 1) :
    ∃ j, layClean.free mask ow (turns mask) (bits h % (mask + 1)) (bits h) = some j ∧ Own mask (ow.setIfInBounds j (some hs.length)) (hs ++ [h]) := by
  have ex : ∃ e, e ≤ mask ∧ ¬ Occ ow e := by
    refine Decidable.byContradiction fun hc => ?_
    have all : ∀ e, e ≤ mask → Occ ow e := fun e he => Decidable.byContradiction fun z => hc ⟨e, he, z⟩
    refine pigeon mask (fun j => (ow[j]?).join) (fun j hj => ?_) fun j j' i l1 l2 e1 e2 => ?_
    · obtain ⟨i, hi⟩ := all j (by omega)
      obtain ⟨h', e1, _⟩ := o.pr j i hi
      have := (List.getElem?_eq_some_iff.mp e1).1
      exact ⟨i, by rw [hi]; rfl, by omega⟩
    · obtain ⟨i1, q1⟩ := all j (by omega)
      obtain ⟨i2, q2⟩ := all j' (by omega)
      rw [q1] at e1; rw [q2] at e2
      cases e1; cases e2
      exact o.inj j j' i q1 q2
  obtain ⟨e, he, hne⟩ := ex
  obtain ⟨N, b, h3, h4, h5, h6⟩ := first_empty hk h (Occ ow) he hne
  have hj := (pn_le mask h N).1
  have hjs : (pn mask h N).j < ow.size := by rw [o.size]; omega
  refine ⟨(pn mask h N).j, free_ok o.size h5 h6 h3 _ 0 (Nat.zero_le _) (by unfold turns; omega) (Nat.zero_le _), ?_⟩
  have up : ∀ x, Occ ow x → Occ (ow.setIfInBounds (pn mask h N).j (some hs.length)) x := fun x ⟨i, hi⟩ => by
    by_cases c : x = (pn mask h N).j
    · exact ⟨hs.length, by rw [set_get hjs, if_pos c]⟩
    · exact ⟨i, by rw [set_get hjs, if_neg c]; exact hi⟩
  refine ⟨by simp [o.size], fun j i hi => ?_, fun i hi => ?_, fun j j' i q1 q2 => ?_⟩
  · rw [set_get hjs] at hi
    split at hi
    · rename_i c
      cases hi
      exact ⟨h, by simp, N, c.symm, fun m hm => up _ (h6 m hm)⟩
    · obtain ⟨h', e1, n, e2, e3⟩ := o.pr j i hi
      refine ⟨h', ?_, n, e2, fun m hm => up _ (e3 m hm)⟩
      rw [List.getElem?_append_left (List.getElem?_eq_some_iff.mp e1).1]; exact e1
  · rw [List.length_append, List.length_singleton] at hi
    by_cases c : i = hs.length
    · exact ⟨(pn mask h N).j, by rw [set_get hjs, if_pos rfl, c]⟩
    · obtain ⟨j, hj⟩ := o.all i (by omega)
      refine ⟨j, ?_⟩
      rw [set_get hjs, if_neg (fun (e : j = (pn mask h N).j) => h5 (by rw [← e]; exact ⟨i, hj⟩))]; exact hj
  · rw [set_get hjs] at q1 q2
    have lt : ∀ x, ow[x]? = some (some i) → i < hs.length := fun x hx => let ⟨_, e, _⟩ := o.pr x i hx; (List.getElem?_eq_some_iff.mp e).1
    split at q1
    · rename_i c1
      split at q2
      · rename_i c2; rw [c1, c2]
      · cases q1; have := lt _ q2; omega
    · split at q2
      · cases q2; have := lt _ q1; omega
      · exact o.inj j j' i q1 q2
end TS
set_option Elab.async false
set_option maxHeartbeats 4000000
namespace TS
open PySem PySem.SetTable
def layStep (mask : Nat) (acc : Option (Array (Option Nat) × Nat)) (h : Int) : Option (Array (Option Nat) × Nat) := do
  let (owner, k) ← acc
  let j ← layClean.free mask owner (turns mask) (bits h % (mask + 1)) (bits h)
  pure (owner.setIfInBounds j (some k), k + 1)
theorem layClean_eq (mask : Nat) (hashes : Array Int) : layClean mask hashes = (hashes.toList.foldl (layStep mask) (some (Array.replicate (mask + 1) none, 0))).map (·.1) := by
  unfold layClean
  rw [← Array.foldl_toList]
  rfl
theorem lay_fold {mask k : Nat} (hk : mask + 1 = 2 ^ k) : ∀ (rest done : List Int) (ow : Array (Option Nat)), Own mask ow done → done.length + rest.length < mask + 1 →
    ∃ ow', rest.foldl (layStep mask) (some (ow, done.length)) = some (ow', done.length + rest.length) ∧ Own mask ow' (done ++ rest)
  | [], done, ow, o, _ => ⟨ow, rfl, by rw [List.append_nil]; exact o⟩
  | h :: rest, done, ow, o, hl => by
    rw [List.length_cons] at hl
    obtain ⟨j, hj, o'⟩ := o.step hk h (by omega)
    have e : layStep mask (some (ow, done.length)) h = some (ow.setIfInBounds j (some done.length), (done ++ [h]).length) := by
      unfold layStep
      simp only [Option.bind_eq_bind, Option.bind_some, hj]
      simp
    obtain ⟨ow', h1, h2⟩ := lay_fold hk rest (done ++ [h]) _ o' (by simp; omega)
    refine ⟨ow', ?_, by simpa using h2⟩
    rw [List.foldl_cons, e, h1]
    simp; omega
theorem own0 (mask : Nat) : Own mask (Array.replicate (mask + 1) none) [] := by
  have no : ∀ (j i : Nat), (Array.replicate (mask + 1) (none : Option Nat))[j]? ≠ some (some i) := fun j i h => by
    rw [Array.getElem?_replicate] at h
    split at h <;> cases h
  exact ⟨by simp, fun j i h => absurd h (no j i), fun i h => absurd h (Nat.not_lt_zero _), fun j j' i h _ => absurd h (no j i)⟩
theorem lay_ok {mask k : Nat} (hk : mask + 1 = 2 ^ k) (hashes : Array Int) (hl : hashes.size < mask + 1) : ∃ ow, layClean mask hashes = some ow ∧ Own mask ow hashes.toList := by
  obtain ⟨ow, h1, h2⟩ := lay_fold hk hashes.toList [] _ (own0 mask) (by simpa using hl)
  refine ⟨ow, ?_, by simpa using h2⟩
  rw [layClean_eq]
  have h1 : List.foldl (layStep mask) (some (Array.replicate (mask + 1) none, 0)) hashes.toList = _ := h1
  rw [h1]; rfl
def lv (mask : Nat) (ow : Array (Option Nat)) : List (Nat × Nat) := (List.range (mask + 1)).filterMap fun j => (ow.getD j none).map (j, ·)
theorem lv_mem {mask : Nat} {ow : Array (Option Nat)} {hs : List Int} (o : Own mask ow hs) (p : Nat × Nat) : p ∈ lv mask ow ↔ ow[p.1]? = some (some p.2) := by
  unfold lv
  rw [List.mem_filterMap]
  constructor
  · rintro ⟨j, hj, e⟩
    have hj := List.mem_range.mp hj
    have hjs : j < ow.size := by rw [o.size]; exact hj
    have e2 : ow.getD j none = ow[j] := by simp [Array.getD, hjs]
    rw [e2] at e
    cases c : ow[j] with
    | none => rw [c] at e; cases e
    | some i =>
      rw [c] at e
      cases e
      show ow[j]? = some (some i)
      rw [Array.getElem?_eq_getElem hjs, c]
  · intro h
    obtain ⟨hjs, e⟩ := Array.getElem?_eq_some_iff.mp h
    refine ⟨p.1, List.mem_range.mpr (by rw [← o.size]; exact hjs), ?_⟩
    have e2 : ow.getD p.1 none = ow[p.1] := by simp [Array.getD, hjs]
    rw [e2, e]; rfl
theorem fm_sorted {f : Nat → Option (Nat × Nat)} (hf : ∀ j p, f j = some p → p.1 = j) : ∀ (n s : Nat), ((List.range' s n).filterMap f).Pairwise (fun p q => p.1 < q.1) ∧ ∀ p ∈ (List.range' s n).filterMap f, s ≤ p.1
  | 0, s => ⟨.nil, fun p hp => by simp at hp⟩
  | n + 1, s => by
    obtain ⟨h1, h2⟩ := fm_sorted hf n (s + 1)
    rw [List.range'_succ]
    cases e : f s with
    | none => rw [List.filterMap_cons_none e]; exact ⟨h1, fun p hp => by have := h2 p hp; omega⟩
    | some q =>
      rw [List.filterMap_cons_some e]
      have hq := hf s q e
      refine ⟨List.pairwise_cons.mpr ⟨fun p hp => by have := h2 p hp; omega, h1⟩, fun p hp => ?_⟩
      rcases List.mem_cons.mp hp with rfl | hp
      · omega
      · have := h2 p hp; omega
theorem lv_sorted (mask : Nat) (ow : Array (Option Nat)) : (lv mask ow).Pairwise fun p q => p.1 < q.1 := by
  unfold lv
  rw [List.range_eq_range']
  refine (fm_sorted (fun j p e => ?_) _ _).1
  cases c : ow.getD j none with
  | none => rw [c] at e; cases e
  | some i => rw [c] at e; cases e; rfl
theorem nodup_len : ∀ (l : List (Nat × Nat)) (n : Nat), (∀ (a b : Nat) p q, l[a]? = some p → l[b]? = some q → p.2 = q.2 → a = b) → (∀ p ∈ l, p.2 < n) → (∀ i, i < n → ∃ p ∈ l, p.2 = i) → l.length = n := by
  intro l n inj lt all
  rcases Nat.lt_trichotomy l.length n with h | h | h
  · exfalso
    have key : ∀ i, i < n → ∃ a : Nat, ∃ p, l[a]? = some p ∧ p.2 = i := fun i hi => by
      obtain ⟨p, hp, e⟩ := all i hi
      obtain ⟨a, ha⟩ := List.mem_iff_getElem?.mp hp
      exact ⟨a, p, ha, e⟩
    obtain ⟨f, hf⟩ : ∃ f : Nat → Nat, ∀ i, i < n → ∃ p, l[f i]? = some p ∧ p.2 = i := ⟨fun i => if hi : i < n then (key i hi).choose else 0, fun i hi => by dsimp only; rw [dif_pos hi]; exact (key i hi).choose_spec⟩
    refine pigeon l.length (fun i => some (f i)) (fun i hi => ⟨f i, rfl, ?_⟩) fun i j a l1 l2 e1 e2 => ?_
    · obtain ⟨p, hp, _⟩ := hf i (by omega)
      exact (List.getElem?_eq_some_iff.mp hp).1
    · obtain ⟨p, hp, hpi⟩ := hf i (by omega)
      obtain ⟨q, hq, hqj⟩ := hf j (by omega)
      cases e1
      rw [Option.some.inj e2, hp] at hq
      cases hq
      omega
  · exact h
  · exfalso
    refine pigeon n (fun a => (l[a]?).map (·.2)) (fun a ha => ?_) fun a b i l1 l2 e1 e2 => ?_
    · have : a < l.length := by omega
      exact ⟨l[a].2, by rw [List.getElem?_eq_getElem this]; rfl, lt _ (List.getElem_mem this)⟩
    · have h1 : a < l.length := by omega
      have h2 : b < l.length := by omega
      rw [List.getElem?_eq_getElem h1] at e1
      rw [List.getElem?_eq_getElem h2] at e2
      exact inj a b l[a] l[b] (List.getElem?_eq_getElem h1) (List.getElem?_eq_getElem h2) ((Option.some.inj e1).trans (Option.some.inj e2).symm)
theorem relaid_ok {t : SetTable} {es : Array (Int × Value)} (hz : 0 < es.size) (hs : es.size ≤ 1000) :
    ∃ t' order es', t.relaid (es.map (·.1)) (grown es.size) = some (t', order) ∧ order.filterMap (es[·]?) = es' ∧ es'.size = es.size ∧ TOk t' es' ∧ ∀ e, e ∈ es'.toList ↔ e ∈ es.toList := by
  have hg : grown es.size = es.size * 4 := by unfold grown; rw [if_neg (by omega)]
  obtain ⟨k, hk3, hsa, hlt, hle⟩ := sa_ok (n := es.size * 4) (by omega)
  unfold relaid
  rw [hg, hsa]
  generalize hm : 2 ^ k - 1 = mask
  have hk : mask + 1 = 2 ^ k := by omega
  obtain ⟨ow, hl, o⟩ := lay_ok hk (es.map (·.1)) (by rw [Array.size_map]; omega)
  unfold laid
  rw [hl]
  have hlen : (es.map (·.1)).toList.length = es.size := by simp
  have mem := lv_mem o
  have srt := lv_sorted mask ow
  have e2lt : ∀ p ∈ lv mask ow, p.2 < es.size := fun p hp => by
    obtain ⟨h, e, _⟩ := o.pr p.1 p.2 ((mem p).mp hp)
    rw [← hlen]; exact (List.getElem?_eq_some_iff.mp e).1
  have inj2 : ∀ (a b : Nat) p q, (lv mask ow)[a]? = some p → (lv mask ow)[b]? = some q → p.2 = q.2 → a = b := fun a b p q ha hb e => by
    have m1 := (mem p).mp (List.mem_of_getElem? ha)
    have m2 := (mem q).mp (List.mem_of_getElem? hb)
    rw [e] at m1
    have e1 := o.inj _ _ _ m1 m2
    rcases Nat.lt_trichotomy a b with h | h | h
    · have := (List.pairwise_iff_getElem.mp srt) a b (List.getElem?_eq_some_iff.mp ha).1 (List.getElem?_eq_some_iff.mp hb).1 h
      rw [(List.getElem?_eq_some_iff.mp ha).2, (List.getElem?_eq_some_iff.mp hb).2] at this
      omega
    · exact h
    · have := (List.pairwise_iff_getElem.mp srt) b a (List.getElem?_eq_some_iff.mp hb).1 (List.getElem?_eq_some_iff.mp ha).1 h
      rw [(List.getElem?_eq_some_iff.mp ha).2, (List.getElem?_eq_some_iff.mp hb).2] at this
      omega
  have len : (lv mask ow).length = es.size := nodup_len _ _ inj2 e2lt fun i hi => by
    obtain ⟨j, hj⟩ := o.all i (by rw [hlen]; exact hi)
    exact ⟨(j, i), (mem (j, i)).mpr hj, rfl⟩
  have fm : ∀ l : List (Nat × Nat), (∀ p ∈ l, p.2 < es.size) → (l.map (·.2)).filterMap (es[·]?) = l.map fun p => es.getD p.2 (0, .none) := by
    intro l
    induction l with
    | nil => intro _; rfl
    | cons p l ih =>
      intro h
      have hp := h p (.head _)
      rw [List.map_cons, List.filterMap_cons_some (b := es[p.2]) (Array.getElem?_eq_getElem hp), ih (fun q hq => h q (.tail _ hq)), List.map_cons]
      congr 1
      simp [Array.getD, hp]
  refine ⟨_, _, _, rfl, rfl, ?_⟩
  show (Array.filterMap (es[·]?) ((lv mask ow).map (·.2)).toArray).size = es.size ∧ TOk { mask := mask, place := ((lv mask ow).map (·.1)).toArray, dummies := #[], finger := t.finger, led := t.led, moves := t.movedTo mask, plain := t.plain } (Array.filterMap (es[·]?) ((lv mask ow).map (·.2)).toArray) ∧ _
  have efm : Array.filterMap (es[·]?) ((lv mask ow).map (·.2)).toArray = ((lv mask ow).map fun p => es.getD p.2 (0, .none)).toArray := by
    apply Array.toList_inj.mp
    rw [Array.toList_filterMap]
    exact fm _ e2lt
  have inn : ∀ j, In { mask := mask, place := ((lv mask ow).map (·.1)).toArray, dummies := #[], finger := t.finger, led := t.led, moves := t.movedTo mask, plain := t.plain } j ↔ Occ ow j := fun j => by
    constructor
    · rintro ⟨i, hi⟩
      have hi : (((lv mask ow).map (·.1)).toArray)[i]? = some j := hi
      rw [List.getElem?_toArray, List.getElem?_map] at hi
      cases c : (lv mask ow)[i]? with
      | none => rw [c] at hi; cases hi
      | some p =>
        rw [c] at hi
        have hi : p.1 = j := Option.some.inj hi
        subst hi
        exact ⟨p.2, (mem p).mp (List.mem_of_getElem? c)⟩
    · rintro ⟨i, hi⟩
      obtain ⟨a, ha⟩ := List.mem_iff_getElem?.mp ((mem (j, i)).mpr hi)
      refine ⟨a, ?_⟩
      show (((lv mask ow).map (·.1)).toArray)[a]? = some j
      rw [List.getElem?_toArray, List.getElem?_map, ha]; rfl
  rw [efm]
  refine ⟨by simp [len], ⟨rfl, by simp, ⟨k, hk, hk3⟩, fun i j hij hj => ?_, fun j hj => ?_, ?_, by show mask < 8192; omega, fun i h v hi => ?_⟩, fun e => ?_⟩
  · have hj : j < (lv mask ow).length := by simpa using hj
    show (((lv mask ow).map (·.1)).toArray).getD i 0 < (((lv mask ow).map (·.1)).toArray).getD j 0
    have h1 : i < (lv mask ow).length := by omega
    have := (List.pairwise_iff_getElem.mp srt) i j h1 hj hij
    simpa [Array.getD, h1, hj] using this
  · obtain ⟨i, hi⟩ := (inn j).mp hj
    have := (Array.getElem?_eq_some_iff.mp hi).1
    rw [o.size] at this
    show j ≤ mask
    omega
  · show (((lv mask ow).map fun p => es.getD p.2 (0, .none)).toArray).size * 5 < mask * 3
    simp [len]; omega
  · have hi : (((lv mask ow).map fun p => es.getD p.2 (0, .none)).toArray)[i]? = some (h, v) := hi
    rw [List.getElem?_toArray, List.getElem?_map] at hi
    cases c : (lv mask ow)[i]? with
    | none => rw [c] at hi; cases hi
    | some p =>
      rw [c] at hi
      have hi : es.getD p.2 (0, .none) = (h, v) := Option.some.inj hi
      have hp := List.mem_of_getElem? c
      have hps := e2lt p hp
      obtain ⟨h', e1, n, e3, e4⟩ := o.pr p.1 p.2 ((mem p).mp hp)
      have eh : h' = h := by
        rw [Array.toList_map, List.getElem?_map, Array.getElem?_toList, Array.getElem?_eq_getElem hps] at e1
        have e1 : es[p.2].1 = h' := Option.some.inj e1
        rw [← e1]
        have : es.getD p.2 (0, .none) = es[p.2] := by simp [Array.getD, hps]
        rw [← this, hi]
      subst eh
      refine ⟨n, ?_, fun m hm => (inn _).mpr (e4 m hm)⟩
      show (((lv mask ow).map (·.1)).toArray)[i]? = some _
      rw [List.getElem?_toArray, List.getElem?_map, c, e3]; rfl
  · show e ∈ (Array.filterMap (es[·]?) ((lv mask ow).map (·.2)).toArray).toList ↔ _
    rw [efm]
    show e ∈ (lv mask ow).map (fun p => es.getD p.2 (0, .none)) ↔ _
    rw [List.mem_map]
    constructor
    · rintro ⟨p, hp, rfl⟩
      have hps := e2lt p hp
      have : es.getD p.2 (0, .none) = es[p.2] := by simp [Array.getD, hps]
      rw [this]
      exact Array.mem_toList_iff.mpr (Array.getElem_mem hps)
    · intro he
      obtain ⟨i, hi, rfl⟩ := List.mem_iff_getElem.mp he
      rw [Array.length_toList] at hi
      obtain ⟨j, hj⟩ := o.all i (by rw [hlen]; exact hi)
      refine ⟨(j, i), (mem (j, i)).mpr hj, ?_⟩
      simp [Array.getD, hi]
end TS
set_option Elab.async false
set_option maxHeartbeats 4000000
namespace TS
open PySem PySem.SetTable
theorem probe_ok {t : SetTable} {es : Array (Int × Value)} (k : TOk t es) {h : Int} {N m : Nat} (hN : ¬ In t (pn t.mask h N).j) (hl : ∀ m, m < N → In t (pn t.mask h m).j) (hb : N < 10 * (t.mask + 14)) (hm : m ≤ N) {ha : Nat → Int} {p : Probe} {r : Option Met}
    (hq : t.probe ha h p = r) (hp : p = pn t.mask h m) :
      (∃ m' i, m ≤ m' ∧ m' < N ∧ t.place[i]? = some (pn t.mask h m').j ∧ ha i = h ∧ (∀ m'' i', m ≤ m'' → m'' < m' → t.place[i']? = some (pn t.mask h m'').j → ha i' ≠ h) ∧ r = some (.candidate (pn t.mask h m').j i (pn t.mask h (m' + 1)))) ∨
      ((∀ m'' i', m ≤ m'' → m'' < N → t.place[i']? = some (pn t.mask h m'').j → ha i' ≠ h) ∧ r = some (.empty (pn t.mask h N).j none)) := by
  subst hq hp
  exact go_ok k h hN hl ha _ m hm (by unfold turns; omega)
def hashI (ks : List Int) : Int := reduceHash (Builtin.Tuple.tupleHashOf (ks.map hashInt))
section
variable {prog : Program} {w : World} {A : Around} {E : Value → Shared → Prop} {s : Shared}
abbrev IsK (prog : Program) (w : World) (h : Heap) (ks : List Int) (b : Addr) : Prop := IsTupleKey (intKind prog w) h ks b
theorem items_int {ks : List Int} {vs : List Value} (h : ItemsAre (intKind prog w) ks vs) : ∀ v ∈ vs, ∃ i t, v = .int i t := by
  induction h with
  | nil => intro v hv; simp at hv
  | cons h1 _ ih =>
    intro v hv
    rcases List.mem_cons.mp hv with rfl | hv
    · obtain ⟨t, rfl⟩ := Value.isInt_shape h1
      exact ⟨_, t, rfl⟩
    · exact ih v hv
theorem wpAny_ofAClass {ks : List Int} {b : Addr} {Q : Bool → Shared → Prop} (hk : IsK prog w s.heap ks b) (h : Q false s) : wpAny (model prog w) A (ofAClassStatement 8 (.ref b)) Q E s := by
  have hT := hk.typeIs
  obtain ⟨o, items, n, ho, hc, hd, hi⟩ := hk
  unfold ofAClassStatement
  refine wpAny_bind (wpAny_typeOf hT ?_)
  dsimp only
  rw [if_pos (by decide)]
  refine wpAny_bind (wpAny_pure ?_)
  simp only [Bool.not_true, Bool.false_eq_true, if_false]
  refine wpAny_bind (wpAny_seqItems ho hd ?_)
  dsimp only
  refine wpAny_bind ?_
  rw [← Array.forIn_toList]
  refine wpAny_forIn_list _ (fun rest r s' => r.1 = none ∧ s' = s ∧ ∀ v ∈ rest, ∃ i t, v = .int i t) _ ?_ ?_ _ _ ⟨rfl, rfl, items_int hi⟩
  · rintro v rest r s' ⟨hr, rfl, hall⟩
    obtain ⟨i, t, rfl⟩ := hall v List.mem_cons_self
    unfold ofAClassStatement
    refine wpAny_bind (wpAny_pure ?_)
    simp only [Bool.false_eq_true, if_false]
    exact wpAny_pure ⟨rfl, rfl, fun u hu' => hall u (List.mem_cons_of_mem _ hu')⟩
  · rintro ⟨r1, r2⟩ s' ⟨hr, rfl, _⟩
    simp only at hr
    subst hr
    exact wpAny_pure h
theorem wpAny_hashByValue {ks : List Int} {b : Addr} {Q : Bool → Shared → Prop} (hk : IsK prog w s.heap ks b) (h : Q true s) : wpAny (model prog w) A (hashByValue 8 (.ref b)) Q E s := by
  have hT := hk.typeIs
  obtain ⟨o, items, n, ho, hc, hd, hi⟩ := hk
  unfold hashByValue
  refine wpAny_bind (wpAny_specialOf hT F.slot_tuple_hash.lookup ?_)
  dsimp only
  refine wpAny_bind (wpAny_seqItems ho hd ?_)
  refine wpAny_bind ?_
  show wpAny _ _ (forIn items _ _) _ _ s
  rw [← Array.forIn_toList]
  refine wpAny_forIn_list _ (fun rest r s' => r.1 = none ∧ s' = s ∧ ∀ v ∈ rest, ∃ i t, v = .int i t) _ ?_ ?_ _ _ ⟨rfl, rfl, items_int hi⟩
  · rintro v rest r s' ⟨hr, rfl, hall⟩
    obtain ⟨i, t, rfl⟩ := hall v List.mem_cons_self
    unfold hashByValue
    refine wpAny_bind (wpAny_pure ?_)
    simp only [Bool.not_true, Bool.false_eq_true, if_false]
    exact wpAny_pure ⟨rfl, rfl, fun u hu' => hall u (List.mem_cons_of_mem _ hu')⟩
  · rintro ⟨r1, r2⟩ s' ⟨hr, rfl, _⟩
    simp only at hr
    subst hr
    exact wpAny_pure h
theorem wpAny_searchSeen {ks : List Int} {x : Addr} {stored : List Value} {Q : Bool → Shared → Prop} (hk : IsK prog w s.heap ks x) (hs : ∀ v ∈ stored, ∃ k b, v = .ref b ∧ IsK prog w s.heap k b) (h : Q false s) :
    wpAny (model prog w) A (searchCouldBeSeen (.ref x) stored) Q E s := by
  unfold searchCouldBeSeen
  refine wpAny_bind ?_
  refine wpAny_forIn_list _ (fun rest r s' => r.1 = none ∧ s' = s ∧ ∀ v ∈ rest, ∃ k b, v = .ref b ∧ IsK prog w s.heap k b) _ ?_ ?_ _ _ ⟨rfl, rfl, hs⟩
  · rintro v rest r s' ⟨hr, rfl, hall⟩
    obtain ⟨k', b, rfl, hb⟩ := hall v List.mem_cons_self
    have nx : ∀ u ∈ rest, ∃ k b, u = .ref b ∧ IsK prog w s'.heap k b := fun u hu' => hall u (List.mem_cons_of_mem _ hu')
    dsimp only
    split
    · exact wpAny_pure ⟨rfl, rfl, nx⟩
    · refine wpAny_bind (wpAny_eqIsQuiet_tuple hk ?_)
      simp only [Bool.not_true, Bool.false_eq_true, if_false]
      refine wpAny_bind (wpAny_eqIsQuiet_tuple hb ?_)
      simp only [Bool.not_true, Bool.false_eq_true, if_false]
      refine wpAny_bind (wpAny_ofAClass hk ?_)
      simp only [Bool.false_eq_true, if_false]
      refine wpAny_bind (wpAny_ofAClass hb ?_)
      simp only [Bool.false_eq_true, if_false]
      exact wpAny_pure ⟨rfl, rfl, nx⟩
  · rintro ⟨r1, r2⟩ s' ⟨hr, rfl, _⟩
    simp only at hr
    subst hr
    exact wpAny_pure h
structure Els (es : Array (Int × Value)) (xs : List (List Int × Addr)) : Prop where
  sub : ∀ e ∈ es.toList, ∃ p ∈ xs, e = (hashI p.1, .ref p.2)
  sup : ∀ p ∈ xs, (hashI p.1, Value.ref p.2) ∈ es.toList
  len : es.size = xs.length
theorem wpAny_setSearch_t {a x : Addr} {k : List Int} {xs : List (List Int × Addr)} {o : Obj} {es : Array (Int × Value)} {ep : Nat} {t : SetTable} {adding : Bool} {Q : SetFound → Shared → Prop} (hu : A.units < cLine)
    (ho : s.heap.get? a = some o) (hd : o.data = .set es ep t) (ok : TOk t es) (el : Els es xs) (hxs : ∀ p ∈ xs, IsK prog w s.heap p.1 p.2) (hkey : IsK prog w s.heap k x) {N : Nat} (hN : ¬ In t (pn t.mask (hashI k) N).j) (hl : ∀ m, m < N → In t (pn t.mask (hashI k) m).j) (hb : N < 10 * (t.mask + 14))
    (yes : (∃ p ∈ xs, p.1 = k) → ∀ r, (adding = false → r.isSome = true) → Q (.there r) s) (no : (∀ p ∈ xs, p.1 ≠ k) → Q (.free (pn t.mask (hashI k) N).j false) s) :
    ∀ (fuel m : Nat) (stand : Option Probe), N - m < fuel → m ≤ N → stand.getD (t.probeStart (hashI k)) = pn t.mask (hashI k) m →
      (∀ (m' i : Nat) (p : List Int × Addr), p ∈ xs → m' < m → t.place[i]? = some (pn t.mask (hashI k) m').j → es[i]? = some (hashI p.1, .ref p.2) → p.1 ≠ k) →
      wpAny (model prog w) A (setSearchFrom a (.ref x) (hashI k) adding fuel stand) Q E s := by
  intro fuel
  induction fuel with
  | zero => intro m stand h1; omega
  | succ fuel ih =>
    intro m stand h1 h2 h3 h4
    unfold setSearchFrom
    refine wpAny_bind (wpAny_setState_of ho hd ok.fits ?_)
    dsimp only
    rw [ok.gave]
    simp only [Bool.false_eq_true, if_false]
    have at_i : ∀ i j, t.place[i]? = some j → ∃ p ∈ xs, es[i]? = some (hashI p.1, Value.ref p.2) := fun i j hi => by
      have hs : i < es.size := by rw [← ok.sz]; exact (get_getD hi 0).1
      have hm : es[i] ∈ es.toList := Array.mem_toList_iff.mpr (Array.getElem_mem hs)
      obtain ⟨p, hp, e⟩ := el.sub _ hm
      exact ⟨p, hp, by rw [Array.getElem?_eq_getElem hs, e]⟩
    split
    · rename_i met hq
      rcases probe_ok ok hN hl hb h2 hq h3 with ⟨m', i, q1, q2, q3, q4, q5, q6⟩ | ⟨q1, q2⟩
      · cases q6
        dsimp only
        obtain ⟨p, hp, hei⟩ := at_i i _ q3
        have seen : wpAny (model prog w) A (searchCouldBeSeen (.ref x) ((es.filter (·.1 == hashI k)).toList.map (·.2))) (fun b s' => b = false ∧ s' = s) E s := by
          refine wpAny_searchSeen hkey (fun v hv => ?_) ⟨rfl, rfl⟩
          obtain ⟨e, he, rfl⟩ := List.mem_map.mp hv
          have he : e ∈ es.toList := by
            rw [Array.toList_filter] at he
            exact (List.mem_filter.mp he).1
          obtain ⟨p, hp, rfl⟩ := el.sub _ he
          exact ⟨p.1, p.2, rfl, hxs p hp⟩
        have sameMem : t.sameMemory t.moves t.mask = some true := by simp [sameMemory]
        have next : p.1 ≠ k → ∀ (m'' i' : Nat) (p' : List Int × Addr), p' ∈ xs → m'' < m' + 1 → t.place[i']? = some (pn t.mask (hashI k) m'').j → es[i']? = some (hashI p'.1, .ref p'.2) → p'.1 ≠ k := fun hne m'' i' p' hp' l1 l2 l3 e => by
          rcases Nat.lt_or_ge m'' m with c | c
          · exact h4 m'' i' p' hp' c l2 l3 e
          · by_cases c2 : m'' = m'
            · subst c2
              have e1 := below_at ok.ris q3
              have e2 := below_at ok.ris l2
              rw [e1] at e2
              subst e2
              rw [hei] at l3
              have e3 := Option.some.inj l3
              injection e3 with e4 e5
              injection e5 with e5
              have i1 := hxs p hp
              have i2 := hxs p' hp'
              rw [← e5] at i2
              exact hne ((i1.inj i2).trans e)
            · refine q5 m'' i' c (by omega) l2 ?_
              show ((es[i']?).map (·.1)).getD 0 = _
              rw [l3, e]; rfl
        rw [hei]
        dsimp only
        split
        · refine wpAny_bind (wpAny_mono seen (fun b s' e => ?_) fun _ _ z => z)
          obtain ⟨rfl, rfl⟩ := e
          simp only [Bool.false_eq_true, if_false]
          refine wpAny_bind (wpAny_holding (wpAny_eqBool_tuple hu (hxs p hp) hkey ?_))
          refine wpAny_bind (wpAny_setState_of ho hd ok.fits ?_)
          dsimp only
          by_cases hkk : p.1 = k
          · rw [decide_eq_true hkk]
            cases adding with
            | true => exact wpAny_pure (yes ⟨p, hp, hkk⟩ none (fun z => by cases z))
            | false =>
              simp only [Bool.false_and, Bool.false_eq_true, if_false]
              rw [sameMem]
              dsimp only
              rw [if_pos rfl, slot_live ok.ris q3]
              dsimp only
              rw [hei]
              dsimp only
              refine wpAny_bind ?_
              unfold isSame
              simp only [beq_self_eq_true, if_true]
              refine wpAny_pure (wpAny_bind (wpAny_pure ?_))
              simp only [if_true]
              exact wpAny_pure (yes ⟨p, hp, hkk⟩ (some i) fun _ => rfl)
          · rw [decide_eq_false hkk]
            simp only [Bool.and_false, Bool.false_eq_true, if_false]
            rw [sameMem]
            dsimp only
            rw [if_pos rfl, slot_live ok.ris q3]
            dsimp only
            rw [hei]
            dsimp only
            refine wpAny_bind ?_
            unfold isSame
            simp only [beq_self_eq_true, if_true]
            refine wpAny_pure (wpAny_bind (wpAny_pure ?_))
            simp only [if_true]
            exact ih (m' + 1) _ (by omega) (by omega) rfl (next hkk)
        · refine wpAny_bind (wpAny_holding (wpAny_eqBool_tuple hu (hxs p hp) hkey ?_))
          refine wpAny_bind (wpAny_setState_of ho hd ok.fits ?_)
          dsimp only
          by_cases hkk : p.1 = k
          · rw [decide_eq_true hkk]
            cases adding with
            | true => exact wpAny_pure (yes ⟨p, hp, hkk⟩ none (fun z => by cases z))
            | false =>
              simp only [Bool.false_and, Bool.false_eq_true, if_false]
              rw [sameMem]
              dsimp only
              rw [if_pos rfl, slot_live ok.ris q3]
              dsimp only
              rw [hei]
              dsimp only
              refine wpAny_bind ?_
              unfold isSame
              simp only [beq_self_eq_true, if_true]
              refine wpAny_pure (wpAny_bind (wpAny_pure ?_))
              simp only [if_true]
              exact wpAny_pure (yes ⟨p, hp, hkk⟩ (some i) fun _ => rfl)
          · rw [decide_eq_false hkk]
            simp only [Bool.and_false, Bool.false_eq_true, if_false]
            rw [sameMem]
            dsimp only
            rw [if_pos rfl, slot_live ok.ris q3]
            dsimp only
            rw [hei]
            dsimp only
            refine wpAny_bind ?_
            unfold isSame
            simp only [beq_self_eq_true, if_true]
            refine wpAny_pure (wpAny_bind (wpAny_pure ?_))
            simp only [if_true]
            exact ih (m' + 1) _ (by omega) (by omega) rfl (next hkk)
      · cases q2
        dsimp only
        refine wpAny_pure (no fun p hp e => ?_)
        obtain ⟨i, hi, hie⟩ := List.mem_iff_getElem.mp (el.sup p hp)
        rw [Array.length_toList] at hi
        have hei : es[i]? = some (hashI p.1, .ref p.2) := by rw [Array.getElem?_eq_getElem hi, ← hie]; simp
        obtain ⟨n, e1, e2⟩ := ok.pr i _ _ hei
        rw [e] at e1 e2
        have hn : n < N := by
          rcases Nat.lt_trichotomy n N with c | c | c
          · exact c
          · subst c; exact absurd ⟨i, e1⟩ hN
          · exact absurd (e2 N c) hN
        rcases Nat.lt_or_ge n m with c | c
        · exact h4 n i p hp c e1 hei e
        · refine q1 n i c hn e1 ?_
          show ((es[i]?).map (·.1)).getD 0 = _
          rw [hei, e]; rfl
    · rename_i hq
      exfalso
      rcases probe_ok ok hN hl hb h2 rfl h3 with ⟨m', i, q1, q2, q3, q4, q5, q6⟩ | ⟨q1, q2⟩
      · exact hq _ q6
      · exact hq _ q2
end
end TS
set_option Elab.async false
set_option maxHeartbeats 4000000
namespace TS
open PySem PySem.SetTable
def TObj (o : Obj) (xs : List (List Int × Addr)) : Prop := o.ExactSet ∧ ∃ es ep t, o.data = .set es ep t ∧ TOk t es ∧ Els es xs
def TSet (a : Addr) (xs : List (List Int × Addr)) (h : Heap) : Prop := ∃ o, h.get? a = some o ∧ TObj o xs
section
variable {prog : Program} {w : World} {A : Around} {E : Value → Shared → Prop} {s : Shared} {a x : Addr} {k : List Int} {xs : List (List Int × Addr)}
theorem TSet.typeIs (h : TSet a xs s.heap) : s.TypeIs (.ref a) "set" := let ⟨o, ho, hc, _⟩ := h; ⟨o, ho, hc.1⟩
theorem TSet.noDict (h : TSet a xs s.heap) : ∀ b, Value.ref a = .ref b → ∃ ob, s.heap.get? b = some ob ∧ ob.dict = none := fun b e => by
  injection e with e; subst e; exact let ⟨o, ho, hc, _⟩ := h; ⟨o, ho, hc.2.1⟩
theorem byScan_ref (x : Addr) (es : Array (Int × Value)) : byScan (.ref x) es = false := by simp [byScan, Value.scannable]
theorem setFind_t {Q : Option Nat → Shared → Prop} (hu : A.units < cLine) (hT : TSet a xs s.heap) (hxs : ∀ p ∈ xs, IsK prog w s.heap p.1 p.2) (hkey : IsK prog w s.heap k x)
    (h : ∀ r : Option Nat, r.isSome = decide (k ∈ xs.map (·.1)) → Q r s) : wpAny (model prog w) A (setFind a (.ref x) (hashI k)) Q E s := by
  obtain ⟨o, ho, hex, es, ep, t, hd, ok, el⟩ := hT
  obtain ⟨N, hb, hN, hl⟩ := ok.empty (hashI k)
  unfold setFind setFindIn
  refine wpAny_bind (wpAny_setState_of ho hd ok.fits ?_)
  dsimp only
  rw [byScan_ref]
  simp only [Bool.false_eq_true, if_false]
  refine wpAny_bind ?_
  unfold setSearch
  have hm := ok.sm
  refine wpAny_setSearch_t hu ho hd ok el hxs hkey hN hl hb (fun hy r hr => ?_) (fun hn => ?_) 100000 0 none (by omega) (Nat.zero_le _) rfl (fun m' i p _ hm' => by omega)
  · obtain ⟨p, hp, e⟩ := hy
    exact wpAny_pure (h r (by rw [hr rfl, decide_eq_true (List.mem_map.mpr ⟨p, hp, e⟩)]))
  · refine wpAny_pure (h none ?_)
    rw [decide_eq_false fun z => ?_]
    · rfl
    · obtain ⟨p, hp, e⟩ := List.mem_map.mp z; exact hn p hp e
theorem els_put {es : Array (Int × Value)} {p : Nat} (el : Els es xs) : Els (insertAt es p (hashI k, .ref x)) (xs ++ [(k, x)]) := by
  have pm := insertAt_perm es p (hashI k, Value.ref x)
  rw [Array.toList_push] at pm
  refine ⟨fun e he => ?_, fun q hq => ?_, ?_⟩
  · rcases List.mem_append.mp (pm.mem_iff.mp he) with he | he
    · obtain ⟨q, hq, e1⟩ := el.sub e he; exact ⟨q, List.mem_append_left _ hq, e1⟩
    · rw [List.mem_singleton] at he; subst he; exact ⟨(k, x), by simp, rfl⟩
  · refine pm.mem_iff.mpr ?_
    rcases List.mem_append.mp hq with hq | hq
    · exact List.mem_append_left _ (el.sup q hq)
    · rw [List.mem_singleton] at hq; subst hq; simp
  · rw [size_ins, el.len]; simp
theorem setAdd_t {Q : Bool → Shared → Prop} (hu : A.units < cLine) (hT : TSet a xs s.heap) (hxs : ∀ p ∈ xs, IsK prog w s.heap p.1 p.2) (hkey : IsK prog w s.heap k x) (hz : xs.length < 1000)
    (old : k ∈ xs.map (·.1) → Q false s) (new : k ∉ xs.map (·.1) → ∀ h', Heap.SameBut a s.heap h' → TSet a (xs ++ [(k, x)]) h' → Q true { s with heap := h' }) : wpAny (model prog w) A (setAddHashed a (.ref x) (hashI k)) Q E s := by
  obtain ⟨o, ho, hex, es, ep, t, hd, ok, el⟩ := hT
  obtain ⟨N, hb, hN, hl⟩ := ok.empty (hashI k)
  have hm := ok.sm
  unfold setAddHashed setAddHashedIn
  refine wpAny_holding (wpAny_bind (wpAny_setState_of ho hd ok.fits ?_))
  dsimp only
  rw [byScan_ref]
  simp only [Bool.false_eq_true, if_false]
  refine wpAny_bind ?_
  unfold setSearch
  refine wpAny_setSearch_t hu ho hd ok el hxs hkey hN hl hb (fun hy r hr => ?_) (fun hn => ?_) 100000 0 none (by omega) (Nat.zero_le _) rfl (fun m' i p _ hm' => by omega)
  · obtain ⟨p, hp, e⟩ := hy
    exact wpAny_pure (old (List.mem_map.mpr ⟨p, hp, e⟩))
  · dsimp only
    have hnew := new fun z => by obtain ⟨p, hp, e⟩ := List.mem_map.mp z; exact hn p hp e
    refine wpAny_bind (wpAny_setState_of ho hd ok.fits ?_)
    have els := els_put (k := k) (x := x) (p := (t.put (pn t.mask (hashI k) N).j).2) el
    have hm1 : (t.put (pn t.mask (hashI k) N).j).1.mask = t.mask := rfl
    have hf1 : (t.put (pn t.mask (hashI k) N).j).1.fill = es.size + 1 := by rw [put_eq ok.dm]; show (insertAt t.place _ _).size + t.dummies.size = _; rw [size_ins, ok.dm, ok.sz]; rfl
    have hp1 : (t.put (pn t.mask (hashI k) N).j).1.place.size = es.size + 1 := by rw [put_eq ok.dm]; show (insertAt t.place _ _).size = _; rw [size_ins, ok.sz]
    have hsz : (insertAt es (t.put (pn t.mask (hashI k) N).j).2 (hashI k, Value.ref x)).size = es.size + 1 := size_ins
    have put := fun q => ok.put (x := .ref x) hN hl q
    generalize t.put (pn t.mask (hashI k) N).j = tp at *
    obtain ⟨t1, p⟩ := tp
    dsimp only at *
    have step : ∀ b : Bool, wpAny (model prog w) A (do
        storeSet a (insertAt es p (hashI k, Value.ref x)) (if b = true then t1 else { t1 with plain := false })
        if (if b = true then t1 else { t1 with plain := false }).tooFull = true then do
          setRelay a (grown (es.size + 1))
          pure true
        else pure true) Q E s := by
      intro b
      generalize ht2 : (if b = true then t1 else { t1 with plain := false }) = t2
      have hm2 : t2.mask = t.mask := by rw [← ht2]; split <;> exact hm1
      have hp2 : t2.place.size = es.size + 1 := by rw [← ht2]; split <;> exact hp1
      have hf2 : t2.fill = es.size + 1 := by rw [← ht2]; split <;> exact hf1
      have put2 : (es.size + 1) * 5 < t.mask * 3 → TOk t2 (insertAt es p (hashI k, .ref x)) := fun q => by
        rw [← ht2]; split
        · exact put q
        · exact (put q).plain false
      refine wpAny_bind (wpAny_storeSet_of ho hd ?_ (by rw [hsz]; have := el.len; rw [sizeLine_eq]; omega))
      have hg : (s.heap.update a (Obj.putSet (insertAt es p (hashI k, .ref x)) t2)).get? a = some { o with data := .set (insertAt es p (hashI k, .ref x)) (ep + 1) t2 } := by
        have := Heap.get?_update_self (Obj.putSet (insertAt es p (hashI k, .ref x)) t2) ho (by rw [putSet_of _ _ hd]; rfl)
        rw [putSet_of _ _ hd] at this; exact this
      have hsb1 := Heap.SameBut.update s.heap a (Obj.putSet (insertAt es p (hashI k, .ref x)) t2)
      by_cases full : t2.tooFull = true
      · rw [if_pos full]
        refine wpAny_bind ?_
        unfold setRelay
        have hsl : es.size = xs.length := el.len
        obtain ⟨kk, s1, s2, s3, s4⟩ := sa_ok (n := grown (es.size + 1)) (by unfold grown; rw [if_neg (by omega)]; omega)
        have hfit : t2.fits (insertAt es p (hashI k, Value.ref x)).size = true := by
          have hro := ok.ro
          obtain ⟨n, e1, e2⟩ := ok.pw
          have : 2 ^ 3 ≤ 2 ^ n := Nat.pow_le_pow_right (by decide) e2
          unfold SetTable.fits
          rw [hf2, hm2, hp2, hsz]
          simp
          omega
        obtain ⟨t3, order, es3, r1, r2, r3, r4, r5⟩ := relaid_ok (t := t2) (es := insertAt es p (hashI k, Value.ref x)) (by omega) (by omega)
        rw [hsz] at r1
        refine wpAny_bind (wpAny_setState_of (s := { s with heap := s.heap.update a (Obj.putSet (insertAt es p (hashI k, .ref x)) t2) }) hg rfl hfit ?_)
        dsimp only
        rw [if_neg (by rw [s2, sizeLine_eq]; omega)]
        refine wpAny_bind ?_
        rw [r1]
        show wpAny _ _ (if ((order.filterMap ((insertAt es p (hashI k, Value.ref x))[·]?)).size != (insertAt es p (hashI k, Value.ref x)).size) = true then _ else _) _ _ _
        rw [r2, if_neg (by rw [r3]; simp)]
        refine wpAny_pure ?_
        dsimp only
        refine wpAny_storeSet_of (s := { s with heap := s.heap.update a (Obj.putSet (insertAt es p (hashI k, .ref x)) t2) }) hg rfl ?_ (by rw [r3, hsz, sizeLine_eq]; omega)
        have hg2 : ((s.heap.update a (Obj.putSet (insertAt es p (hashI k, .ref x)) t2)).update a (Obj.putSet es3 t3)).get? a = some { o with data := .set es3 (ep + 1 + 1) t3 } := by
          have := Heap.get?_update_self (Obj.putSet es3 t3) hg (by rw [putSet_of es3 t3 (o := { o with data := .set (insertAt es p (hashI k, .ref x)) (ep + 1) t2 }) rfl]; rfl)
          rw [putSet_of es3 t3 (o := { o with data := .set (insertAt es p (hashI k, .ref x)) (ep + 1) t2 }) rfl] at this; exact this
        refine wpAny_pure (hnew _ (hsb1.trans (Heap.SameBut.update _ a _)) ⟨_, hg2, hex, _, _, _, rfl, r4, ⟨fun e he => els.sub e ((r5 e).mp he), fun q hq => (r5 _).mpr (els.sup q hq), by rw [r3]; exact els.len⟩⟩)
      · rw [if_neg full]
        refine wpAny_pure (hnew _ hsb1 ⟨_, hg, hex, _, _, _, rfl, put2 ?_, els⟩)
        unfold SetTable.tooFull at full
        rw [hf2, hm2] at full
        simp at full
        exact full
    split
    · refine wpAny_bind (wpAny_hashByValue hkey ?_)
      exact step true
    · refine wpAny_bind (wpAny_pure ?_)
      exact step true
end
end TS
set_option Elab.async false
set_option maxHeartbeats 4000000
namespace BF
def lx : List Nat → List Nat → Prop
  | a :: u, b :: v => a < b ∨ (a = b ∧ lx u v)
  | _, _ => False
def sl (u v : List Nat) : Prop := u.length < v.length ∨ (u.length = v.length ∧ lx u v)
def le (u v : List Nat) : Prop := sl u v ∨ u = v
theorem lx_irr : ∀ u, ¬ lx u u
  | [], h => h
  | a :: u, h => by rcases h with h | ⟨_, h⟩; omega; exact lx_irr u h
theorem lx_trans : ∀ {u v w}, lx u v → lx v w → lx u w
  | [], _, _, h, _ => h.elim
  | _ :: _, [], _, h, _ => h.elim
  | _ :: _, _ :: _, [], _, h => h.elim
  | a :: u, b :: v, c :: w, h, g => by
    rcases h with h | ⟨h, h'⟩ <;> rcases g with g | ⟨g, g'⟩
    · exact .inl (by omega)
    · exact .inl (by omega)
    · exact .inl (by omega)
    · exact .inr ⟨by omega, lx_trans h' g'⟩
theorem lx_tot : ∀ {u v : List Nat}, u.length = v.length → u = v ∨ lx u v ∨ lx v u
  | [], [], _ => .inl rfl
  | [], _ :: _, h => by simp at h
  | _ :: _, [], h => by simp at h
  | a :: u, b :: v, h => by
    rcases Nat.lt_trichotomy a b with c | c | c
    · exact .inr (.inl (.inl c))
    · subst c
      rcases lx_tot (u := u) (v := v) (by simpa using h) with e | e | e
      · exact .inl (by rw [e])
      · exact .inr (.inl (.inr ⟨rfl, e⟩))
      · exact .inr (.inr (.inr ⟨rfl, e⟩))
    · exact .inr (.inr (.inl c))
theorem sl_irr (u : List Nat) : ¬ sl u u := fun h => by
  rcases h with h | ⟨_, h⟩
  · omega
  · exact lx_irr u h
theorem sl_trans {u v w : List Nat} (h : sl u v) (g : sl v w) : sl u w := by
  rcases h with h | ⟨h, h'⟩ <;> rcases g with g | ⟨g, g'⟩
  · exact .inl (by omega)
  · exact .inl (by omega)
  · exact .inl (by omega)
  · exact .inr ⟨by omega, lx_trans h' g'⟩
theorem sl_tot (u v : List Nat) : u = v ∨ sl u v ∨ sl v u := by
  rcases Nat.lt_trichotomy u.length v.length with c | c | c
  · exact .inr (.inl (.inl c))
  · rcases lx_tot c with e | e | e
    · exact .inl e
    · exact .inr (.inl (.inr ⟨c, e⟩))
    · exact .inr (.inr (.inr ⟨c.symm, e⟩))
  · exact .inr (.inr (.inl c))
theorem sl_le {u v w : List Nat} (h : sl u v) (g : le v w) : sl u w := by
  rcases g with g | rfl
  · exact sl_trans h g
  · exact h
theorem le_trans {u v w : List Nat} (h : le u v) (g : le v w) : le u w := by
  rcases h with h | rfl
  · exact .inl (sl_le h g)
  · exact g
theorem le_len {u v : List Nat} (h : le u v) : u.length ≤ v.length := by
  rcases h with (h | ⟨h, _⟩) | rfl <;> omega
theorem lx_app : ∀ {u v : List Nat} (c d : Nat), u.length = v.length → lx u v → lx (u ++ [c]) (v ++ [d])
  | [], _, _, _, _, h => h.elim
  | _ :: _, [], _, _, _, h => h.elim
  | a :: u, b :: v, c, d, hl, h => by
    rcases h with h | ⟨h, h'⟩
    · exact .inl h
    · exact .inr ⟨h, lx_app c d (by simpa using hl) h'⟩
theorem sl_app {u v : List Nat} (c d : Nat) (h : sl u v) : sl (u ++ [c]) (v ++ [d]) := by
  rcases h with h | ⟨h, h'⟩
  · exact .inl (by simpa using h)
  · exact .inr ⟨by simpa using h, lx_app c d h h'⟩
theorem lx_last : ∀ (u : List Nat) {c d : Nat}, c < d → lx (u ++ [c]) (u ++ [d])
  | [], _, _, h => .inl h
  | _ :: u, _, _, h => .inr ⟨rfl, lx_last u h⟩
theorem sl_last (u : List Nat) {c d : Nat} (h : c < d) : sl (u ++ [c]) (u ++ [d]) := .inr ⟨by simp, lx_last u h⟩
theorem le_app {u v : List Nat} (a : Nat) (h : le u v) : le (u ++ [a]) (v ++ [a]) := by
  rcases h with h | rfl
  · exact .inl (sl_app a a h)
  · exact .inr rfl
abbrev P := Nat × Nat
section
variable (A : Nat) (step : P → Nat → Option P) (fail : P → Nat → Bool)
def walk : P → List Nat → Option P
  | p, [] => some p
  | p, a :: w => (step p a).bind fun q => walk q w
def Fails (p : P) (w : List Nat) : Prop := ∃ u b q, w = u ++ [b] ∧ b < A ∧ (∀ a ∈ u, a < A) ∧ walk step p u = some q ∧ fail q b = true
def Least (p : P) (w : List Nat) : Prop := Fails A step fail p w ∧ ∀ v, Fails A step fail p v → ¬ sl v w
end
section
variable {A : Nat} {step : P → Nat → Option P} {fail : P → Nat → Bool}
theorem Least.uniq {p : P} {u v : List Nat} (h : Least A step fail p u) (g : Least A step fail p v) : u = v := by
  rcases sl_tot u v with e | e | e
  · exact e
  · exact absurd e (g.2 u h.1)
  · exact absurd e (h.2 v g.1)
theorem walk_snoc : ∀ (p : P) (u : List Nat) (a : Nat), walk step p (u ++ [a]) = (walk step p u).bind fun q => step q a
  | p, [], a => by show (step p a).bind _ = step p a; cases step p a <;> rfl
  | p, b :: u, a => by
    show (step p b).bind _ = ((step p b).bind _).bind _
    cases step p b with
    | none => rfl
    | some q => exact walk_snoc q u a
structure Bf (A : Nat) (step : P → Nat → Option P) (fail : P → Nat → Bool) (p0 : P) (ps : List P) (ws : List (List Nat)) (i c : Nat) : Prop where
  len : ws.length = ps.length
  z : ps[0]? = some p0 ∧ ws[0]? = some []
  wk : ∀ (k : Nat) q w, ps[k]? = some q → ws[k]? = some w → walk step p0 w = some q ∧ ∀ a ∈ w, a < A
  inc : ∀ (k l : Nat) u v, k < l → ws[k]? = some u → ws[l]? = some v → sl u v
  cl : ∀ (k : Nat) q w a q', ((k < i ∧ a < A) ∨ (k = i ∧ a < c)) → ps[k]? = some q → ws[k]? = some w → step q a = some q' → ∃ (l : Nat) (u : List Nat), ps[l]? = some q' ∧ ws[l]? = some u ∧ le u (w ++ [a])
  nf : ∀ (k : Nat) q a, ((k < i ∧ a < A) ∨ (k = i ∧ a < c)) → ps[k]? = some q → fail q a = false
  top : ∀ (k : Nat) w u, ws[k]? = some w → ws[i]? = some u → sl w (u ++ [c])
  nd : ps.Nodup
theorem Bf.start (p0 : P) : Bf A step fail p0 [p0] [[]] 0 0 := by
  have one : ∀ (k : Nat) w, ([[]] : List (List Nat))[k]? = some w → k = 0 ∧ w = [] := fun k w h => by
    cases k with
    | zero => exact ⟨rfl, by simpa using h.symm⟩
    | succ k => simp at h
  refine ⟨rfl, ⟨rfl, rfl⟩, fun k q w h1 h2 => ?_, fun k l u v hkl h1 h2 => ?_, fun k q w a q' h => ?_, fun k q a h => ?_, fun k w u h1 h2 => ?_, by simp⟩
  · obtain ⟨rfl, rfl⟩ := one k w h2
    have : p0 = q := by simpa using h1
    subst this
    exact ⟨rfl, fun a ha => by simp at ha⟩
  · have := (one k u h1).1; have := (one l v h2).1; omega
  · omega
  · omega
  · obtain ⟨rfl, rfl⟩ := one k w h1
    obtain ⟨_, rfl⟩ := one 0 u h2
    exact .inl (by simp)
section
variable {p0 q q' : P} {ps : List P} {ws : List (List Nat)} {w : List Nat} {i c : Nat}
theorem get_snoc {α : Type} {l : List α} {x y : α} {k : Nat} (h : (l ++ [x])[k]? = some y) : l[k]? = some y ∨ (k = l.length ∧ y = x) := by
  rcases Nat.lt_trichotomy k l.length with hk | hk | hk
  · rw [List.getElem?_append_left hk] at h; exact .inl h
  · subst hk; rw [List.getElem?_append_right (Nat.le_refl _)] at h; exact .inr ⟨rfl, by simpa using h.symm⟩
  · rw [List.getElem?_eq_none (by simp; omega)] at h; cases h
theorem get_left {α : Type} {l : List α} {x y : α} {k : Nat} (h : l[k]? = some y) : (l ++ [x])[k]? = some y := by
  rw [List.getElem?_append_left (List.getElem?_eq_some_iff.mp h).1]; exact h
theorem Bf.push (b : Bf A step fail p0 ps ws i c) (hc : c < A) (hq : ps[i]? = some q) (hw : ws[i]? = some w) (hf : fail q c = false) (hs : step q c = some q') (hn : q' ∉ ps) : Bf A step fail p0 (ps ++ [q']) (ws ++ [w ++ [c]]) i (c + 1) := by
  have hiL := (List.getElem?_eq_some_iff.mp hq).1
  refine ⟨by simp [b.len], ⟨get_left b.z.1, get_left b.z.2⟩, fun k r u h1 h2 => ?_, fun k l u v hkl h1 h2 => ?_, fun k r u a r' h h1 h2 h3 => ?_, fun k r a h h1 => ?_, fun k u v h1 h2 => ?_, ?_⟩
  · rcases get_snoc h1 with g1 | ⟨e1, rfl⟩ <;> rcases get_snoc h2 with g2 | ⟨e2, rfl⟩
    · exact b.wk k r u g1 g2
    · have := (List.getElem?_eq_some_iff.mp g1).1; have := b.len; omega
    · have := (List.getElem?_eq_some_iff.mp g2).1; have := b.len; omega
    · obtain ⟨h1, h2⟩ := b.wk i q w hq hw
      refine ⟨by rw [walk_snoc, h1]; exact hs, fun a ha => ?_⟩
      rcases List.mem_append.mp ha with ha | ha
      · exact h2 a ha
      · have : a = c := by simpa using ha
        omega
  · rcases get_snoc h1 with g1 | ⟨e1, rfl⟩ <;> rcases get_snoc h2 with g2 | ⟨e2, rfl⟩
    · exact b.inc k l u v hkl g1 g2
    · exact b.top k u w g1 hw
    · have := (List.getElem?_eq_some_iff.mp g2).1; omega
    · omega
  · have hk : k < ps.length := by omega
    have g1 : ps[k]? = some r := by rw [List.getElem?_append_left hk] at h1; exact h1
    have g2 : ws[k]? = some u := by rw [List.getElem?_append_left (by rw [b.len]; exact hk)] at h2; exact h2
    by_cases hkc : k = i ∧ a = c
    · obtain ⟨rfl, rfl⟩ := hkc
      rw [hq] at g1; cases g1
      rw [hw] at g2; cases g2
      rw [hs] at h3; cases h3
      exact ⟨ps.length, w ++ [a], by rw [List.getElem?_append_right (Nat.le_refl _)]; simp, by rw [← b.len, List.getElem?_append_right (Nat.le_refl _)]; simp, .inr rfl⟩
    · obtain ⟨l, v, e1, e2, e3⟩ := b.cl k r u a r' (by omega) g1 g2 h3
      exact ⟨l, v, get_left e1, get_left e2, e3⟩
  · have hk : k < ps.length := by omega
    have g1 : ps[k]? = some r := by rw [List.getElem?_append_left hk] at h1; exact h1
    by_cases hkc : k = i ∧ a = c
    · obtain ⟨rfl, rfl⟩ := hkc
      rw [hq] at g1; cases g1
      exact hf
    · exact b.nf k r a (by omega) g1
  · have g2 : ws[i]? = some v := by rw [List.getElem?_append_left (by rw [b.len]; exact hiL)] at h2; exact h2
    rw [hw] at g2; cases g2
    rcases get_snoc h1 with g1 | ⟨e1, rfl⟩
    · exact sl_trans (b.top k u w g1 hw) (sl_last w (Nat.lt_succ_self c))
    · exact sl_last w (Nat.lt_succ_self c)
  · rw [List.nodup_append]
    exact ⟨b.nd, by simp, fun x hx y hy => by have : y = q' := by simpa using hy
                                              subst this; exact fun e => hn (e ▸ hx)⟩
theorem Bf.skip (b : Bf A step fail p0 ps ws i c) (hc : c < A) (hq : ps[i]? = some q) (hw : ws[i]? = some w) (hf : fail q c = false) (hs : ∀ q', step q c = some q' → q' ∈ ps) : Bf A step fail p0 ps ws i (c + 1) := by
  refine ⟨b.len, b.z, b.wk, b.inc, fun k r u a r' h h1 h2 h3 => ?_, fun k r a h h1 => ?_, fun k u v h1 h2 => ?_, b.nd⟩
  · by_cases hkc : k = i ∧ a = c
    · obtain ⟨rfl, rfl⟩ := hkc
      rw [hq] at h1; cases h1
      rw [hw] at h2; cases h2
      obtain ⟨l, hl⟩ := List.mem_iff_getElem?.mp (hs r' h3)
      have hll := (List.getElem?_eq_some_iff.mp hl).1
      have hwl : l < ws.length := by rw [b.len]; exact hll
      have hv : ws[l]? = some ws[l] := List.getElem?_eq_getElem hwl
      exact ⟨l, _, hl, hv, .inl (b.top l _ w hv hw)⟩
    · exact b.cl k r u a r' (by omega) h1 h2 h3
  · by_cases hkc : k = i ∧ a = c
    · obtain ⟨rfl, rfl⟩ := hkc
      rw [hq] at h1; cases h1
      exact hf
    · exact b.nf k r a (by omega) h1
  · exact sl_trans (b.top k u v h1 h2) (sl_last v (Nat.lt_succ_self c))
theorem Bf.next (b : Bf A step fail p0 ps ws i A) : Bf A step fail p0 ps ws (i + 1) 0 := by
  refine ⟨b.len, b.z, b.wk, b.inc, fun k r u a r' h h1 h2 h3 => ?_, fun k r a h h1 => ?_, fun k u v h1 h2 => ?_, b.nd⟩
  · exact b.cl k r u a r' (by omega) h1 h2 h3
  · exact b.nf k r a (by omega) h1
  · have hl := (List.getElem?_eq_some_iff.mp h2).1
    have hi : ws[i]? = some ws[i] := List.getElem?_eq_getElem (by omega)
    exact sl_trans (b.top k u _ h1 hi) (sl_app A 0 (b.inc i (i + 1) _ v (by omega) hi h2))
theorem Bf.key (b : Bf A step fail p0 ps ws i c) (u : List Nat) (hu : ∀ a ∈ u, a < A) : ∀ q, walk step p0 u = some q → ∃ u1 u2 k w' q1, u = u1 ++ u2 ∧ ps[k]? = some q1 ∧ ws[k]? = some w' ∧ walk step p0 u1 = some q1 ∧ le w' u1 ∧ ((u2 = [] ∧ q1 = q) ∨ i ≤ k) := by
  have gen : ∀ (n : Nat) (u : List Nat), u.length = n → (∀ a ∈ u, a < A) → ∀ q, walk step p0 u = some q → ∃ u1 u2 k w' q1, u = u1 ++ u2 ∧ ps[k]? = some q1 ∧ ws[k]? = some w' ∧ walk step p0 u1 = some q1 ∧ le w' u1 ∧ ((u2 = [] ∧ q1 = q) ∨ i ≤ k) := by
    intro n
    induction n with
    | zero =>
      intro u hl hu q hq
      have : u = [] := List.length_eq_zero_iff.mp hl
      subst this
      cases hq
      exact ⟨[], [], 0, [], p0, rfl, b.z.1, b.z.2, rfl, .inr rfl, .inl ⟨rfl, rfl⟩⟩
    | succ n ih =>
      intro u hl hu q hq
      obtain ⟨u', a, rfl⟩ : ∃ u' a, u = u' ++ [a] := by
        have hne : u ≠ [] := fun e => by subst e; simp at hl
        exact ⟨u.dropLast, u.getLast hne, (List.dropLast_concat_getLast hne).symm⟩
      rw [walk_snoc] at hq
      cases hq' : walk step p0 u' with
      | none => rw [hq'] at hq; cases hq
      | some q1 =>
        rw [hq'] at hq
        have hq : step q1 a = some q := hq
        obtain ⟨u1, u2, k, w', q2, e0, e1, e2, e3, e4, e5⟩ := ih u' (by simpa using hl) (fun x hx => hu x (List.mem_append_left _ hx)) q1 hq'
        by_cases hk : i ≤ k
        · exact ⟨u1, u2 ++ [a], k, w', q2, by rw [e0, List.append_assoc], e1, e2, e3, e4, .inr hk⟩
        · rcases e5 with ⟨rfl, rfl⟩ | e5
          · rw [List.append_nil] at e0
            subst e0
            obtain ⟨l, v, g1, g2, g3⟩ := b.cl k q2 w' a q (.inl ⟨by omega, hu a (by simp)⟩) e1 e2 hq
            exact ⟨u' ++ [a], [], l, v, q, by simp, g1, g2, by rw [walk_snoc, hq']; exact hq, le_trans g3 (le_app a e4), .inl ⟨rfl, rfl⟩⟩
          · exact absurd e5 hk
  exact gen u.length u rfl hu
theorem Bf.found (b : Bf A step fail p0 ps ws i c) (hc : c < A) (hq : ps[i]? = some q) (hw : ws[i]? = some w) (hf : fail q c = true) : Least A step fail p0 (w ++ [c]) := by
  obtain ⟨hwk, hwa⟩ := b.wk i q w hq hw
  refine ⟨⟨w, c, q, rfl, hc, hwa, hwk, hf⟩, ?_⟩
  rintro v ⟨u, d, r, rfl, hd, hu, hr, hfr⟩ hs
  obtain ⟨u1, u2, k, w', q1, e0, e1, e2, e3, e4, e5⟩ := b.key u hu r hr
  have wle : i ≤ k → le w w' := fun hk => by
    rcases Nat.lt_or_ge i k with h | h
    · exact .inl (b.inc i k w w' h hw e2)
    · have : i = k := by omega
      subst this
      rw [hw] at e2; cases e2; exact .inr rfl
  have fin : i ≤ k → False := fun hk => by
    have h1 : le w u1 := le_trans (wle hk) e4
    have hl := le_len h1
    have hlu : u.length = u1.length + u2.length := by rw [e0, List.length_append]
    by_cases hlen : w.length < u.length
    · rcases hs with h | ⟨h, _⟩ <;> (simp at h; omega)
    · have hu2 : u2 = [] := List.length_eq_zero_iff.mp (by omega)
      subst hu2
      rw [List.append_nil] at e0
      subst e0
      rcases h1 with h1 | rfl
      · exact sl_irr _ (sl_trans hs (sl_app c d h1))
      · have hqr : q = r := by rw [hwk] at hr; exact Option.some.inj hr
        subst hqr
        have hdc : c ≤ d := by
          rcases Nat.lt_or_ge d c with h | h
          · have := b.nf i q d (.inr ⟨rfl, h⟩) hq
            rw [hfr] at this; cases this
          · exact h
        rcases Nat.lt_or_ge c d with h | h
        · exact sl_irr _ (sl_trans hs (sl_last w h))
        · have : c = d := by omega
          subst this
          exact sl_irr _ hs
  rcases e5 with ⟨rfl, rfl⟩ | e5
  · by_cases hk : i ≤ k
    · exact fin hk
    · have := b.nf k q1 d (.inl ⟨by omega, hd⟩) e1
      rw [hfr] at this; cases this
  · exact fin e5
theorem Bf.none (b : Bf A step fail p0 ps ws ps.length 0) : ∀ v, ¬ Fails A step fail p0 v := by
  rintro v ⟨u, d, r, rfl, hd, hu, hr, hfr⟩
  obtain ⟨u1, u2, k, w', q1, e0, e1, e2, e3, e4, e5⟩ := b.key u hu r hr
  have hk := (List.getElem?_eq_some_iff.mp e1).1
  rcases e5 with ⟨rfl, rfl⟩ | e5
  · have := b.nf k q1 d (.inl ⟨hk, hd⟩) e1
    rw [hfr] at this; cases this
  · omega
end
def Fn (A : Nat) (step : P → Nat → Option P) (fail : P → Nat → Bool) (n : Nat) (p : P) : Prop := ∃ w, Fails A step fail p w ∧ w.length = n
def Ds (A : Nat) (step : P → Nat → Option P) (fail : P → Nat → Bool) (p : P) (n : Nat) : Prop := Fn A step fail n p ∧ ∀ m, m < n → ¬ Fn A step fail m p
theorem Ds.uniq {p : P} {n m : Nat} (h : Ds A step fail p n) (g : Ds A step fail p m) : n = m := by
  rcases Nat.lt_trichotomy n m with c | c | c
  · exact absurd h.1 (g.2 n c)
  · exact c
  · exact absurd g.1 (h.2 m c)
theorem fails_cons {p q : P} {a : Nat} {w : List Nat} (ha : a < A) (hs : step p a = some q) (h : Fails A step fail q w) : Fails A step fail p (a :: w) := by
  obtain ⟨u, b, r, rfl, h1, h2, h3, h4⟩ := h
  refine ⟨a :: u, b, r, rfl, h1, fun x hx => ?_, by show (step p a).bind _ = _; rw [hs]; exact h3, h4⟩
  rcases List.mem_cons.mp hx with rfl | hx
  · exact ha
  · exact h2 x hx
theorem fails_inv {p : P} {a : Nat} {w : List Nat} (h : Fails A step fail p (a :: w)) : (w = [] ∧ a < A ∧ fail p a = true) ∨ ∃ q, a < A ∧ step p a = some q ∧ Fails A step fail q w := by
  obtain ⟨u, b, r, e, h1, h2, h3, h4⟩ := h
  cases u with
  | nil =>
    cases e
    cases h3
    exact .inl ⟨rfl, h1, h4⟩
  | cons x u =>
    cases e
    cases hs : step p a with
    | none => rw [show walk step p (a :: u) = (step p a).bind _ from rfl, hs] at h3; cases h3
    | some q =>
      rw [show walk step p (a :: u) = (step p a).bind _ from rfl, hs] at h3
      exact .inr ⟨q, h2 a (by simp), rfl, u, b, r, rfl, h1, fun x hx => h2 x (by simp [hx]), h3, h4⟩
theorem fails_ne {p : P} : ¬ Fails A step fail p [] := by
  rintro ⟨u, b, r, e, _⟩
  simp at e
theorem Fn.one {p : P} : Fn A step fail 1 p ↔ ∃ a, a < A ∧ fail p a = true := by
  constructor
  · rintro ⟨w, h, hl⟩
    cases w with
    | nil => simp at hl
    | cons a w =>
      have : w = [] := List.length_eq_zero_iff.mp (by simpa using hl)
      subst this
      rcases fails_inv h with ⟨_, h1, h2⟩ | ⟨q, _, _, h3⟩
      · exact ⟨a, h1, h2⟩
      · exact absurd h3 fails_ne
  · rintro ⟨a, h1, h2⟩
    exact ⟨[a], ⟨[], a, p, rfl, h1, fun x hx => by simp at hx, rfl, h2⟩, rfl⟩
theorem Fn.zero {p : P} : ¬ Fn A step fail 0 p := by
  rintro ⟨w, h, hl⟩
  have : w = [] := List.length_eq_zero_iff.mp hl
  subst this
  exact fails_ne h
theorem Fn.succ {p : P} {n : Nat} : Fn A step fail (n + 2) p ↔ ∃ a q, a < A ∧ step p a = some q ∧ Fn A step fail (n + 1) q := by
  constructor
  · rintro ⟨w, h, hl⟩
    cases w with
    | nil => simp at hl
    | cons a w =>
      rcases fails_inv h with ⟨e, _⟩ | ⟨q, h1, h2, h3⟩
      · subst e; simp at hl
      · exact ⟨a, q, h1, h2, w, h3, by simpa using hl⟩
  · rintro ⟨a, q, h1, h2, w, h3, hl⟩
    exact ⟨a :: w, fails_cons h1 h2 h3, by simp [hl]⟩
theorem Ds.one {p : P} : Ds A step fail p 1 ↔ ∃ a, a < A ∧ fail p a = true := by
  constructor
  · exact fun h => Fn.one.mp h.1
  · refine fun h => ⟨Fn.one.mpr h, fun m hm => ?_⟩
    have : m = 0 := by omega
    subst this; exact Fn.zero
theorem least_nat {Q : Nat → Prop} {n : Nat} (h : Q n) : ∃ m, m ≤ n ∧ Q m ∧ ∀ k, k < m → ¬ Q k := by
  induction n using Nat.strongRecOn with
  | _ n ih =>
    by_cases c : ∃ k, k < n ∧ Q k
    · obtain ⟨k, hk, q⟩ := c
      obtain ⟨m, h1, h2⟩ := ih k hk q
      exact ⟨m, by omega, h2⟩
    · exact ⟨n, Nat.le_refl _, h, fun k hk q => c ⟨k, hk, q⟩⟩
theorem Ds.of {p : P} {n : Nat} (h : Fn A step fail n p) : ∃ m, m ≤ n ∧ Ds A step fail p m := by
  obtain ⟨m, h1, h2, h3⟩ := least_nat (Q := fun n => Fn A step fail n p) h
  exact ⟨m, h1, h2, h3⟩
theorem Ds.round {p : P} {n : Nat} (hn : 1 ≤ n) : Ds A step fail p (n + 1) ↔ (¬ ∃ m, m ≤ n ∧ Ds A step fail p m) ∧ ∃ a q m, a < A ∧ step p a = some q ∧ m ≤ n ∧ Ds A step fail q m := by
  constructor
  · intro h
    refine ⟨fun ⟨m, hm, d⟩ => by have := h.uniq d; omega, ?_⟩
    obtain ⟨k, rfl⟩ : ∃ k, n = k + 1 := ⟨n - 1, by omega⟩
    obtain ⟨a, q, h1, h2, h3⟩ := Fn.succ.mp h.1
    obtain ⟨m, hm, d⟩ := Ds.of h3
    exact ⟨a, q, m, h1, h2, hm, d⟩
  · rintro ⟨h0, a, q, m, h1, h2, h3, h4⟩
    have hm : m ≠ 0 := fun e => by subst e; exact Fn.zero h4.1
    obtain ⟨k, rfl⟩ : ∃ k, m = k + 1 := ⟨m - 1, by omega⟩
    have hf : Fn A step fail (k + 2) p := Fn.succ.mpr ⟨a, q, h1, h2, h4.1⟩
    obtain ⟨j, hj, d⟩ := Ds.of hf
    have : ¬ j ≤ n := fun hjn => h0 ⟨j, hjn, d⟩
    have e : j = n + 1 := by omega
    rw [← e]; exact d
theorem Least.len {p : P} {w : List Nat} {n : Nat} (h : Least A step fail p w) (d : Ds A step fail p n) : w.length = n := by
  rcases Nat.lt_trichotomy w.length n with c | c | c
  · exact absurd ⟨w, h.1, rfl⟩ (d.2 _ c)
  · exact c
  · obtain ⟨v, hv, hl⟩ := d.1
    exact absurd (.inl (by omega)) (h.2 v hv)
theorem Least.one {p : P} {a : Nat} (ha : a < A) (hf : fail p a = true) (hb : ∀ b, b < a → fail p b = false) : Least A step fail p [a] := by
  refine ⟨⟨[], a, p, rfl, ha, fun x hx => by simp at hx, rfl, hf⟩, fun v hv hs => ?_⟩
  cases v with
  | nil => exact fails_ne hv
  | cons b v =>
    rcases hs with h | ⟨h, h'⟩
    · simp at h
    · have : v = [] := List.length_eq_zero_iff.mp (by simpa using h)
      subst this
      rcases fails_inv hv with ⟨_, _, h2⟩ | ⟨q, _, _, h3⟩
      · rcases h' with h' | ⟨_, h'⟩
        · rw [hb b h'] at h2; cases h2
        · exact h'
      · exact fails_ne h3
theorem Least.cons {p q : P} {a n : Nat} {w : List Nat} (d : Ds A step fail p (n + 1)) (hn : 1 ≤ n) (ha : a < A) (hs : step p a = some q) (dq : Ds A step fail q n) (hb : ∀ b q', b < a → step p b = some q' → ¬ Ds A step fail q' n) (h : Least A step fail q w) : Least A step fail p (a :: w) := by
  have hl := h.len dq
  refine ⟨fails_cons ha hs h.1, fun v hv hsl => ?_⟩
  have hvl : v.length = n + 1 := by
    rcases hsl with h' | ⟨h', _⟩
    · exact absurd ⟨v, hv, rfl⟩ (d.2 v.length (by rw [List.length_cons] at h'; omega))
    · rw [List.length_cons] at h'; omega
  cases v with
  | nil => simp at hvl
  | cons b v =>
    rcases hsl with h' | ⟨_, h'⟩
    · rw [hvl, List.length_cons] at h'; omega
    · rcases fails_inv hv with ⟨e, _⟩ | ⟨q', h1, h2, h3⟩
      · subst e; simp at hvl; omega
      · have hvl' : v.length = n := by simpa using hvl
        have dq' : Ds A step fail q' n := ⟨⟨v, h3, hvl'⟩, fun m hm ⟨u, hu, hul⟩ => d.2 (m + 1) (by omega) ⟨b :: u, fails_cons h1 h2 hu, by simp [hul]⟩⟩
        rcases h' with h' | ⟨e, h'⟩
        · exact hb b q' h' h2 dq'
        · subst e
          rw [hs] at h2; cases h2
          exact h.2 v h3 (.inr ⟨by omega, h'⟩)
end
theorem few {n : Nat} : ∀ (l : List Nat), l.Nodup → (∀ x ∈ l, x < n) → l.length ≤ n := by
  intro l hd hl
  rcases Nat.lt_or_ge n l.length with h | h
  · exfalso
    refine TS.pigeon n (fun a => l[a]?) (fun a ha => ?_) fun a b i l1 l2 e1 e2 => ?_
    · have : a < l.length := by omega
      exact ⟨l[a], List.getElem?_eq_getElem this, hl _ (List.getElem_mem this)⟩
    · have h1 : a < l.length := by omega
      exact (List.getElem?_inj h1 hd).mp (e1.trans e2.symm)
  · exact h
theorem few2 {n m : Nat} (l : List P) (hd : l.Nodup) (hl : ∀ x ∈ l, x.1 < n ∧ x.2 < m) : l.length ≤ n * m := by
  have := few (n := n * m) (l.map fun x => x.1 * m + x.2) (by
    unfold List.Nodup
    rw [List.pairwise_map]
    refine List.Pairwise.imp_of_mem (fun {x y} hx hy hne e => hne ?_) hd
    · skip
      obtain ⟨h1, h2⟩ := hl x hx
      obtain ⟨h3, h4⟩ := hl y hy
      have e1 : x.2 = y.2 := by
        have a1 : (x.1 * m + x.2) % m = x.2 := by rw [Nat.mul_comm, Nat.mul_add_mod]; exact Nat.mod_eq_of_lt h2
        have a2 : (y.1 * m + y.2) % m = y.2 := by rw [Nat.mul_comm, Nat.mul_add_mod]; exact Nat.mod_eq_of_lt h4
        rw [← a1, ← a2]; exact congrArg (· % m) e
      have e2 : x.1 = y.1 := by
        have : x.1 * m = y.1 * m := by omega
        exact Nat.eq_of_mul_eq_mul_right (by omega) this
      exact Prod.ext e2 e1) (fun z hz => by
    obtain ⟨x, hx, rfl⟩ := List.mem_map.mp hz
    obtain ⟨h1, h2⟩ := hl x hx
    calc x.1 * m + x.2 < x.1 * m + m := by omega
      _ = (x.1 + 1) * m := by rw [Nat.add_mul, Nat.one_mul]
      _ ≤ n * m := Nat.mul_le_mul_right m h1)
  simpa using this
end BF
set_option Elab.async false
set_option maxRecDepth 100000
namespace L2
open PySem PySem.Spec PyProof.Rows
abbrev Key := Sum Int Str
def keyIs : Key → Value → Bool
  | .inl k, v => Value.isInt k v
  | .inr x, v => Value.isStrOf x v
def keyH (w : World) : Key → Int
  | .inl k => hashInt k
  | .inr x => hashStr w x
theorem keyIs_shape : ∀ {k : Key} {v : Value}, keyIs k v = true → (∃ i t, k = Sum.inl i ∧ v = Value.int i t) ∨ (∃ x t, k = Sum.inr x ∧ v = Value.str x t)
  | .inl i, v, h => by
    obtain ⟨t, e⟩ := Value.isInt_shape (k := i) (v := v) h
    exact .inl ⟨i, t, rfl, e⟩
  | .inr x, v, h => by
    obtain ⟨t, e⟩ := Value.isStrOf_shape (x := x) (v := v) h
    exact .inr ⟨x, t, rfl, e⟩
theorem keyIs_int (i : Int) (t : Tok) : keyIs (.inl i) (.int i t) = true := by simp [keyIs, Value.isInt]
theorem keyIs_str (x : Str) (t : Tok) : keyIs (.inr x) (.str x t) = true := by simp [keyIs, Value.isStrOf]
theorem key_ll (a b : Int) : decide ((Sum.inl a : Key) = Sum.inl b) = (a == b) := by
  by_cases e : a = b
  · subst e; simp
  · have h : ¬ (Sum.inl a : Key) = Sum.inl b := fun q => e (Sum.inl.inj q)
    rw [decide_eq_false h]
    exact (beq_eq_false_iff_ne.mpr e).symm
theorem key_rr (a b : Str) : decide ((Sum.inr a : Key) = Sum.inr b) = decide (a = b) := by
  by_cases e : a = b
  · subst e; simp
  · have h : ¬ (Sum.inr a : Key) = Sum.inr b := fun q => e (Sum.inr.inj q)
    rw [decide_eq_false h, decide_eq_false e]
theorem key_lr (a : Int) (b : Str) : decide ((Sum.inl a : Key) = Sum.inr b) = false := decide_eq_false (fun q => nomatch q)
theorem key_rl (a : Str) (b : Int) : decide ((Sum.inr a : Key) = Sum.inl b) = false := decide_eq_false (fun q => nomatch q)
def mixKind (prog : Program) (w : World) : PySem.KeyKind prog w Key where
  is := keyIs
  hash := keyH w
  inj := fun v a b ha hb => by
    rcases keyIs_shape ha with ⟨i, t, rfl, rfl⟩ | ⟨x, t, rfl, rfl⟩
    · rcases keyIs_shape hb with ⟨j, u, rfl, e⟩ | ⟨y, u, rfl, e⟩
      · injection e with e1 _; rw [e1]
      · exact nomatch e
    · rcases keyIs_shape hb with ⟨j, u, rfl, e⟩ | ⟨y, u, rfl, e⟩
      · exact nomatch e
      · injection e with e1 _; rw [e1]
  byValue := fun k v h => by
    rcases keyIs_shape h with ⟨i, t, rfl, rfl⟩ | ⟨x, t, rfl, rfl⟩ <;> rfl
  pyHash := fun hv h => by
    rcases keyIs_shape hv with ⟨i, t, rfl, rfl⟩ | ⟨x, t, rfl, rfl⟩
    · exact wpAny_pyHash_int h
    · exact wpAny_pyHash_str h
  eqBool := fun hu hv h => by
    rcases keyIs_shape hu with ⟨i, t, rfl, rfl⟩ | ⟨x, t, rfl, rfl⟩
    · rcases keyIs_shape hv with ⟨j, u, rfl, rfl⟩ | ⟨y, u, rfl, rfl⟩
      · rw [key_ll] at h; exact wpAny_eqBool_int h
      · rw [key_lr] at h; exact SeqAt.EqAt.int_str i t y u _ _ _ _ h
    · rcases keyIs_shape hv with ⟨j, u, rfl, rfl⟩ | ⟨y, u, rfl, rfl⟩
      · rw [key_rl] at h; exact SeqAt.EqAt.str_int x t j u _ _ _ _ h
      · rw [key_rr] at h; exact wpAny_eqBool_str h
  «strs» := fun k x t v h => by
    rcases keyIs_shape h with ⟨i, u, rfl, e⟩ | ⟨y, u, rfl, e⟩
    · exact nomatch e
    · injection e with e1 _
      subst e1
      cases v <;> rfl
theorem mixKind_int (prog : Program) (w : World) (i : Int) (t : Tok) : (mixKind prog w).is (.inl i) (.int i t) = true := keyIs_int i t
theorem mixKind_str (prog : Program) (w : World) (x : Str) (t : Tok) : (mixKind prog w).is (.inr x) (.str x t) = true := keyIs_str x t
end L2
namespace L2
open PySem PySem.Spec PyProof.Rows
inductive V where
  | non | bl (b : Bool) | int (i : Int) | str (x : Str) | byt (b : Array UInt8) | flt (b : UInt64) | ref (a : Addr) | ty (n : String)
  deriving DecidableEq
def RelV : V → Value → Prop
  | .non, u => u = Value.none
  | .bl b, u => u = Value.bool b
  | .int i, u => ∃ t, u = Value.int i t
  | .str x, u => ∃ t, u = Value.str x t
  | .byt b, u => ∃ t, u = Value.bytes b t
  | .flt b, u => ∃ t, u = Value.float b t
  | .ref a, u => u = Value.ref a
  | .ty n, u => u = Value.type n
abbrev Vals : List V → List Value → Prop := Paired RelV
theorem Vals.length {xs : List V} {us : List Value} (r : Vals xs us) : xs.length = us.length := Paired.length r
theorem Vals.get : ∀ {xs : List V} {us : List Value} {i : Nat} {x : V}, Vals xs us → xs[i]? = some x → ∃ u, us[i]? = some u ∧ RelV x u
  | _, _, _, _, .nil, e => by simp at e
  | _, _, 0, _, .cons r _, e => by simp at e; subst e; exact ⟨_, rfl, r⟩
  | _, _, i + 1, x, .cons _ t, e => by
    obtain ⟨u, h1, h2⟩ := Vals.get (i := i) (x := x) t (by simpa using e)
    exact ⟨u, by simpa using h1, h2⟩
theorem Vals.set {x : V} {u : Value} (r : RelV x u) : ∀ {xs : List V} {us : List Value} (i : Nat), Vals xs us → Vals (xs.set i x) (us.set i u)
  | _, _, _, .nil => .nil
  | _, _, 0, .cons _ t => .cons r t
  | _, _, i + 1, .cons q t => .cons q (Vals.set r i t)
theorem Vals.append : ∀ {xs ys : List V} {us ws : List Value}, Vals xs us → Vals ys ws → Vals (xs ++ ys) (us ++ ws)
  | _, _, _, _, .nil, s => s
  | _, _, _, _, .cons r t, s => .cons r (Vals.append t s)
theorem Vals.take : ∀ {xs : List V} {us : List Value} (n : Nat), Vals xs us → Vals (xs.take n) (us.take n)
  | _, _, 0, _ => .nil
  | _, _, _ + 1, .nil => .nil
  | _, _, n + 1, .cons r t => .cons r (Vals.take n t)
theorem Vals.drop : ∀ {xs : List V} {us : List Value} (n : Nat), Vals xs us → Vals (xs.drop n) (us.drop n)
  | _, _, 0, r => r
  | _, _, _ + 1, .nil => .nil
  | _, _, n + 1, .cons _ t => Vals.drop n t
def RelO : Option V → Option Value → Prop
  | some v, some u => RelV v u
  | none, none => True
  | _, _ => False
def KV {κ : Type} : List (κ × V) → List (κ × Value) → Prop := Paired fun (p : κ × V) (q : κ × Value) => p.1 = q.1 ∧ RelV p.2 q.2
def kV : Key → V
  | .inl i => .int i
  | .inr x => .str x
inductive HO where
  | lst (xs : List V)
  | tup (xs : List V)
  | dK (kvs : List (Key × V)) | dT (kvs : List (List Key × V))
  | set (S : Int → Bool) (n : Nat)
  | ins (C dx : Addr) (fs : List (Str × V))
  | own (x : Addr)
  | xd (fs : List (Str × V))
  | met (f x : Addr)
  | rng (lo hi : Int)
  | frz (o : Obj) (u : HO)
  | tbl (ps : Array Value)
  | ext (φ : Heap → Prop)
abbrev Hp := Addr → Option HO
def upd (H : Hp) (a : Addr) (o : HO) : Hp := fun b => if b = a then some o else H b
theorem upd_same {H : Hp} {a : Addr} {o : HO} : upd H a o a = some o := by unfold upd; rw [if_pos rfl]
theorem upd_ne {H : Hp} {a b : Addr} {o : HO} (h : b ≠ a) : upd H a o b = H b := by unfold upd; rw [if_neg h]
theorem ne_of {H : Hp} {a b : Addr} {o u : HO} (h : H a = some o) (h' : H b = some u) (d : o ≠ u) : a ≠ b := by
  intro e; subst e; rw [h] at h'; exact d (Option.some.inj h')
theorem ne_of_none {H : Hp} {a b : Addr} {o : HO} (h : H a = some o) (h' : H b = none) : a ≠ b := by
  intro e; subst e; rw [h] at h'; cases h'
section
variable (P : Program) (w : World)
def ObjOk (H : Hp) (h : Heap) (a : Addr) : HO → Prop
  | .lst xs => xs.length ≤ sizeLine ∧ ∃ (its : List Value) (n : Nat), Vals xs its ∧ h.get? a = some { cls := .type "list", data := .seq its.toArray n }
  | .tup xs => xs.length ≤ sizeLine ∧ ∃ its : List Value, Vals xs its ∧ IsTup h a its.toArray
  | .dK kvs => kvs.length ≤ sizeLine ∧ (a == sysModules) = false ∧ ∃ vs, KV kvs vs ∧ h.DictOf (mixKind P w) a vs
  | .dT kvs => kvs.length ≤ sizeLine ∧ (a == sysModules) = false ∧ ∃ xs : List (List Key × Addr × Value),
      Paired (fun (p : List Key × V) (q : List Key × Addr × Value) => p.1 = q.1 ∧ H q.2.1 = some (.tup (p.1.map kV)) ∧ RelV p.2 q.2.2) kvs xs ∧
      ∃ o es ep, h.get? a = some o ∧ o.ExactDict ∧ o.data = .dict es ep ∧ es.toList = xs.map (entryOfKey (tupleKind (mixKind P w))) ∧ (xs.map (·.1)).Nodup
  | .set S n => h.SetOf (intKind P w) a S n
  | .ins C dx fs => H dx = some (.own a) ∧ fs.length ≤ 1000 ∧ dx ≠ a ∧ h.get? a = some (PySem.W.instObj C dx) ∧
      ∃ mA, h.Ns1 dx mA ∧ (∀ f, RelO (fs.lookup f) (mA f)) ∧ PySem.Within mA (fs.map (·.1))
  | .own _ => ∃ o, h.get? a = some o
  | .xd fs => ∃ mA, h.Ns1 a mA ∧ ∀ f, RelO (fs.lookup f) (mA f)
  | .rng lo hi => ∃ t u v, h.get? a = some { cls := .type "range", data := .fields #[.int lo t, .int hi u, .int 1 v] }
  | .frz o u => h.get? a = some o ∧ ObjOk H h a u
  | .tbl ps => h.get? a = some { cls := .none, data := .fields ps }
  | .met f x => h.get? a = some (PySem.W.methodObj (.ref f) (.ref x))
  | .ext φ => φ h ∧ (∃ o, h.get? a = some o) ∧ ∀ h1 h2 : Heap, φ h1 → (∀ o, h1.get? a = some o → h2.get? a = some o) → φ h2
def HOk (H : Hp) (h : Heap) : Prop := ∀ a o, H a = some o → ObjOk P w H h a o
end
section
variable {P : Program} {w : World} {H H' : Hp} {h h' : Heap} {a : Addr} {o : HO}
theorem ObjOk.lt (x : ObjOk P w H h a o) : a < h.objs.size := by
  cases o with
  | lst xs => obtain ⟨_, _, _, _, e⟩ := x; exact Heap.lt_size e
  | tup xs => obtain ⟨_, _, _, p⟩ := x; exact p.lt
  | dK kvs => obtain ⟨_, _, _, _, o, _, _, e, _⟩ := x; exact Heap.lt_size e
  | dT kvs => obtain ⟨_, _, _, _, o, _, _, e, _⟩ := x; exact Heap.lt_size e
  | set S n => obtain ⟨o, _, _, _, e, _⟩ := x; exact Heap.lt_size e
  | ins C dx fs => obtain ⟨_, _, _, e, _⟩ := x; exact Heap.lt_size e
  | own y => obtain ⟨_, e⟩ := x; exact Heap.lt_size e
  | xd fs => obtain ⟨_, ⟨_, _, _, e, _⟩, _⟩ := x; exact Heap.lt_size e
  | rng lo hi => obtain ⟨_, _, _, e⟩ := x; exact Heap.lt_size e
  | frz ob u => obtain ⟨e, _⟩ := x; exact Heap.lt_size e
  | tbl ps => exact Heap.lt_size (show h.get? a = some _ from x)
  | met f y => exact Heap.lt_size (show h.get? a = some _ from x)
  | ext φ => obtain ⟨_, ⟨_, e⟩, _⟩ := x; exact Heap.lt_size e
theorem Paired.mapP {α β : Type} {F G : α → β → Prop} : ∀ {l₁ : List α} {l₂ : List β}, Paired F l₁ l₂ → (∀ a b, F a b → G a b) → Paired G l₁ l₂
  | _, _, .nil, _ => .nil
  | _, _, .cons r t, f => .cons (f _ _ r) (Paired.mapP t f)
theorem ObjOk.stay (x : ObjOk P w H h a o) (k : ∀ b u, (b = a ∨ H b = some (.own a)) → h.get? b = some u → h'.get? b = some u)
    (ho : ∀ b, H b = some (.own a) → H' b = some (.own a)) (ht : ∀ b xs, H b = some (.tup xs) → H' b = some (.tup xs)) : ObjOk P w H' h' a o := by
  induction o with
  | lst xs => obtain ⟨z, its, n, r, e⟩ := x; exact ⟨z, its, n, r, k _ _ (.inl rfl) e⟩
  | tup xs => obtain ⟨z, its, r, ob, e, c⟩ := x; exact ⟨z, its, r, ob, k _ _ (.inl rfl) e, c⟩
  | dK kvs => obtain ⟨z, y, vs, r, ob, es, ep, e, c⟩ := x; exact ⟨z, y, vs, r, ob, es, ep, k _ _ (.inl rfl) e, c⟩
  | dT kvs =>
    obtain ⟨z, y, xs, r, ob, es, ep, e, c⟩ := x
    exact ⟨z, y, xs, Paired.mapP r fun p q z => ⟨z.1, ht _ _ z.2.1, z.2.2⟩, ob, es, ep, k _ _ (.inl rfl) e, c⟩
  | set S n => obtain ⟨ob, es, ep, t, e, c⟩ := x; exact ⟨ob, es, ep, t, k _ _ (.inl rfl) e, c⟩
  | ins C dx fs =>
    obtain ⟨d, z, ne, e, mA, ⟨od, es, ep, e2, c⟩, r⟩ := x
    exact ⟨ho _ d, z, ne, k _ _ (.inl rfl) e, mA, ⟨od, es, ep, k _ _ (.inr d) e2, c⟩, r⟩
  | own y => obtain ⟨ob, e⟩ := x; exact ⟨ob, k _ _ (.inl rfl) e⟩
  | xd fs => obtain ⟨mA, ⟨od, es, ep, e, c⟩, r⟩ := x; exact ⟨mA, ⟨od, es, ep, k _ _ (.inl rfl) e, c⟩, r⟩
  | rng lo hi => obtain ⟨t, u, v, e⟩ := x; exact ⟨t, u, v, k _ _ (.inl rfl) e⟩
  | frz ob u ih => obtain ⟨e, q⟩ := x; exact ⟨k _ _ (.inl rfl) e, ih q⟩
  | tbl ps =>
    have e : h.get? a = some { cls := .none, data := .fields ps } := x
    show h'.get? a = some { cls := .none, data := .fields ps }
    exact k a _ (.inl rfl) e
  | met f y =>
    have e : h.get? a = some (PySem.W.methodObj (.ref f) (.ref y)) := x
    show h'.get? a = some (PySem.W.methodObj (.ref f) (.ref y))
    exact k a _ (.inl rfl) e
  | ext φ => obtain ⟨p, ⟨o, e⟩, st⟩ := x; exact ⟨st _ _ p fun o q => k _ _ (.inl rfl) q, ⟨o, k _ _ (.inl rfl) e⟩, st⟩
theorem HOk.lt (x : HOk P w H h) (e : H a = some o) : a < h.objs.size := (x a o e).lt
theorem HOk.fresh (x : HOk P w H h) (e : h.objs.size ≤ a) : H a = none := by
  cases q : H a with
  | none => rfl
  | some u => exact absurd (Nat.lt_of_lt_of_le (x.lt q) e) (Nat.lt_irrefl _)
theorem HOk.kept (x : HOk P w H h) (k : ∀ b u, h.get? b = some u → h'.get? b = some u) : HOk P w H h' := fun a o e =>
  (x a o e).stay (fun b u _ q => k b u q) (fun _ q => q) fun _ _ q => q
theorem HOk.laid (x : HOk P w H h) (k : ∀ b u, h.get? b = some u → h'.get? b = some u) (hp : h.objs.size ≤ a) (new : ObjOk P w (upd H a o) h' a o) : HOk P w (upd H a o) h' := fun b u e => by
  have hn := x.fresh hp
  by_cases hb : b = a
  · subst hb; rw [upd_same] at e; cases e; exact new
  · rw [upd_ne hb] at e
    exact (x b u e).stay (fun c v _ q => k c v q) (fun c q => by rw [upd_ne (ne_of_none q hn)]; exact q) fun c xs q => by rw [upd_ne (ne_of_none q hn)]; exact q
end
def Rd (H : Hp) (a : Addr) (u : HO) : Prop := H a = some u ∨ ∃ o, H a = some (.frz o u)
theorem Rd.of {H : Hp} {a : Addr} {u : HO} (h : H a = some u) : Rd H a u := .inl h
theorem Rd.ok {P : Program} {w : World} {H : Hp} {h : Heap} {a : Addr} {u : HO} (r : Rd H a u) (x : HOk P w H h) : ObjOk P w H h a u := by
  rcases r with r | ⟨o, r⟩
  · exact x a u r
  · obtain ⟨_, q⟩ := x a _ r
    exact q
def Mut : Option HO → Prop
  | some (.lst _) => True
  | some (.dK _) => True
  | some (.dT _) => True
  | some (.set _ _) => True
  | some (.ins _ _ _) => True
  | some (.ext _) => True
  | _ => False
section
variable {P : Program} {w : World} {H : Hp} {h h' : Heap} {x e : Addr} {o' : HO}
theorem HOk.write (ok : HOk P w H h) (mu : Mut (H x)) (he : e = x ∨ H e = some (.own x)) (k : ∀ b u, b ≠ e → h.get? b = some u → h'.get? b = some u) (heo : ∃ u, h'.get? e = some u)
    (new : ObjOk P w (upd H x o') h' x o') : HOk P w (upd H x o') h' := fun b u q => by
  have nown : ∀ c y, H c = some (.own y) → c ≠ x := fun c y r z => by subst z; rw [r] at mu; exact mu
  have ntup : ∀ c xs, H c = some (.tup xs) → c ≠ x := fun c xs r z => by subst z; rw [r] at mu; exact mu
  by_cases hb : b = x
  · subst hb; rw [upd_same] at q; cases q; exact new
  · rw [upd_ne hb] at q
    by_cases hbe : b = e
    · have q' : H b = some (.own x) := by
        rcases he with z | z
        · exact absurd (hbe.trans z) hb
        · rw [hbe]; exact z
      rw [q] at q'; cases q'
      obtain ⟨v, hv⟩ := heo
      exact ⟨v, by rw [hbe]; exact hv⟩
    · refine (ok b u q).stay (fun c v hc r => k c v ?_ r) (fun c r => by rw [upd_ne (nown c b r)]; exact r) fun c xs r => by rw [upd_ne (ntup c xs r)]; exact r
      rcases hc with rfl | hc
      · exact hbe
      · rintro rfl
        rcases he with z | z
        · exact nown c b hc z
        · rw [hc] at z; cases z; exact hb rfl
end
structure Un (fs ex : List Addr) (H H' : Hp) (h h' : Heap) : Prop where
  keep : ∀ b o, h.get? b = some o → H b = none → b ∉ fs → b ∉ ex → h'.get? b = some o
  slot : ∀ b o, h.get? b = some o → H b = none → b ∈ fs → b ∉ ex → ∃ sl, h'.get? b = some { o with slots := sl }
  free : ∀ b o, h.get? b = some o → H b = none → b ∉ ex → H' b = none
  there : ∀ b o, h.get? b = some o → b ∉ ex → ∃ o', h'.get? b = some o'
  tups : ∀ b xs, H b = some (.tup xs) → H' b = some (.tup xs)
  frzs : ∀ b o u, H b = some (.frz o u) → H' b = some (.frz o u)
  tbls : ∀ b ps, H b = some (.tbl ps) → ∃ more, H' b = some (.tbl (ps ++ more))
section
variable {fs fs' ex ex' : List Addr} {H H1 H2 : Hp} {h h1 h2 h' : Heap} {a x e : Addr} {o : HO}
theorem Un.any (u : Un fs ex H H1 h h1) {b : Addr} {ob : Obj} (q : h.get? b = some ob) (n : H b = none) (hx : b ∉ ex) : ∃ sl, h1.get? b = some { ob with slots := sl } := by
  by_cases hb : b ∈ fs
  · exact u.slot b ob q n hb hx
  · exact ⟨ob.slots, u.keep b ob q n hb hx⟩
theorem Un.trans (a : Un fs ex H H1 h h1) (b : Un fs ex H1 H2 h1 h2) : Un fs ex H H2 h h2 where
  keep := fun c ob q n hc hx => b.keep c ob (a.keep c ob q n hc hx) (a.free c ob q n hx) hc hx
  slot := fun c ob q n hc hx => by
    obtain ⟨sl, e1⟩ := a.slot c ob q n hc hx
    obtain ⟨sl', e2⟩ := b.slot c _ e1 (a.free c ob q n hx) hc hx
    exact ⟨sl', e2⟩
  free := fun c ob q n hx => by
    obtain ⟨o', e1⟩ := a.there c ob q hx
    exact b.free c o' e1 (a.free c ob q n hx) hx
  there := fun c ob q hx => by
    obtain ⟨o', e1⟩ := a.there c ob q hx
    exact b.there c o' e1 hx
  tups := fun c xs q => b.tups c xs (a.tups c xs q)
  frzs := fun c ob xs q => b.frzs c ob xs (a.frzs c ob xs q)
  tbls := fun c ps q => by
    obtain ⟨m1, e1⟩ := a.tbls c ps q
    obtain ⟨m2, e2⟩ := b.tbls c _ e1
    exact ⟨m1 ++ m2, by rw [e2, Array.append_assoc]⟩
theorem Un.kept (k : ∀ b u, h.get? b = some u → h'.get? b = some u) : Un fs ex H H h h' :=
  ⟨fun b ob q _ _ _ => k b ob q, fun b ob q _ _ _ => ⟨ob.slots, k b ob q⟩, fun _ _ _ n _ => n, fun b ob q _ => ⟨ob, k b ob q⟩, fun _ _ q => q, fun _ _ _ q => q, fun _ ps q => ⟨#[], by rw [q]; simp⟩⟩
theorem Un.refl : Un fs ex H H h h := Un.kept fun _ _ q => q
theorem Un.laid (k : ∀ b u, h.get? b = some u → h'.get? b = some u) (hp : h.objs.size ≤ a) (hn : H a = none) : Un fs ex H (upd H a o) h h' where
  keep := fun b u q _ _ _ => k b u q
  slot := fun b u q _ _ _ => ⟨u.slots, k b u q⟩
  free := fun b u q n _ => by rw [upd_ne (Nat.ne_of_lt (Nat.lt_of_lt_of_le (Heap.lt_size q) hp))]; exact n
  there := fun b u q _ => ⟨u, k b u q⟩
  tups := fun b xs q => by rw [upd_ne (ne_of_none q hn)]; exact q
  frzs := fun b u xs q => by rw [upd_ne (ne_of_none q hn)]; exact q
  tbls := fun b ps q => ⟨#[], by rw [upd_ne (ne_of_none q hn), q]; simp⟩
theorem Un.write (mu : Mut (H x)) (he : e = x ∨ H e = some (.own x)) (k : ∀ b u, b ≠ e → h.get? b = some u → h'.get? b = some u) (heo : ∃ u, h'.get? e = some u) : Un fs ex H (upd H x o) h h' := by
  have hx : ∀ b, H b = none → b ≠ x := fun b n z => by subst z; rw [n] at mu; exact mu
  have hb : ∀ b, H b = none → b ≠ e := fun b n z => by
    subst z
    rcases he with r | r
    · exact hx b n r
    · rw [n] at r; cases r
  have hm : ∀ b u, H b = some u → ¬ Mut (some u) → b ≠ x := fun b u q nm z => by subst z; rw [q] at mu; exact nm mu
  refine ⟨fun b u q n _ _ => k b u (hb b n) q, fun b u q n _ _ => ⟨u.slots, k b u (hb b n) q⟩, fun b u q n _ => by rw [upd_ne (hx b n)]; exact n, fun b u q _ => ?_,
    fun b xs q => by rw [upd_ne (hm b _ q fun z => z)]; exact q, fun b u xs q => by rw [upd_ne (hm b _ q fun z => z)]; exact q, fun b ps q => ⟨#[], by rw [upd_ne (hm b _ q fun z => z), q]; simp⟩⟩
  by_cases hbe : b = e
  · subst hbe; exact heo
  · exact ⟨u, k b u hbe q⟩
theorem Un.mono (u : Un fs ex H H1 h h1) (hs : ∀ b ∈ fs, b ∈ fs') (hx : ∀ b ∈ ex, b ∈ ex') : Un fs' ex' H H1 h h1 :=
  ⟨fun b ob q n hb he => u.keep b ob q n (fun z => hb (hs b z)) fun z => he (hx b z), fun _ _ q n _ he => u.any q n fun z => he (hx _ z), fun b ob q n he => u.free b ob q n fun z => he (hx b z), fun b ob q he => u.there b ob q fun z => he (hx b z), u.tups, u.frzs, u.tbls⟩
end
def trk (h : Heap) (H : Hp) : List Addr := (List.range h.objs.size).filter fun a => (H a).isSome
def hidT (h : Heap) (H : Hp) : Heap := PySem.W.hideAll h (trk h H)
theorem hidT_size (h : Heap) (H : Hp) : (hidT h H).objs.size = h.objs.size := PySem.W.hideAll_size _ _
theorem hidT_get {h : Heap} {H : Hp} {b : Addr} {o : Obj} (e : h.get? b = some o) (n : H b = none) : (hidT h H).get? b = some o :=
  PySem.W.hideAll_get _ e fun hm => by
    have q : (H b).isSome = true := (List.mem_filter.mp hm).2
    rw [n] at q; simp at q
theorem of_hidT {h : Heap} {H : Hp} {b : Addr} {o : Obj} (e : (hidT h H).get? b = some o) : h.get? b = some o ∧ H b = none := by
  have e' : h.get? b = some o := PySem.W.of_hideAll (trk h H) e
  refine ⟨e', ?_⟩
  cases q : H b with
  | none => rfl
  | some x =>
    have hm : b ∈ trk h H := List.mem_filter.mpr ⟨List.mem_range.mpr (Heap.lt_size e'), by simp [q]⟩
    have z : (hidT h H).get? b = none := PySem.W.hideAll_none (trk h H) hm
    rw [z] at e; cases e
def allNews (g h : Heap) (L : Addr) : List (Addr × Obj) := (List.range h.objs.size).filterMap fun a => if a = L ∨ (g.get? a).isSome = true then none else (h.get? a).map fun o => (a, o)
def rest (g h : Heap) (L d : Addr) : List (Addr × Obj) := (allNews g h L).filter fun p => decide (p.1 ≠ d)
end L2
namespace L2
open PySem PySem.Spec PyProof.Rows
structure Mod (K : PySem.W.Frag) (mg : Str → Option Value) (base : Heap) : Prop where
  kin : K.In base
  glob : base.Ns mainGlobals mg
  blt : ∃ mb, base.Ns builtinsNs mb ∧ ∀ x : Str, x ≠ "__name__" → mb x = bootBuiltins x
  nolimit : base.NoLimit
structure Cx where
  prog : Program
  w : World
  K : PySem.W.Frag
  mg : Str → Option Value
  base : Heap
  A : Around
  N : List Str
  s₀ : Shared
  H₀ : Hp
  env : Env
  outer : List Env
  stack : List Env
  ex : List Addr
  fn : Str → Bool
  calm : Bool
  pn : List (Addr × Obj)
  xe : Value → Shared → Prop
def frs (l : List Env) : List Addr := l.filterMap (·.frame)
abbrev Cx.fs (X : Cx) : List Addr := frs X.outer
def Vis (sc : Scope) (x : Str) : Prop := sc.names.lookup x = some .local ∨ sc.names.lookup x = some .cell ∨ sc.names.lookup x = some .free
def Loc (sc : Scope) (x : Str) : Prop := sc.names.lookup x = some .local ∨ sc.names.lookup x = some .cell
def Look (env : Env) (h : Heap) (m : Str → Option Value) (x : Str) (u : Value) : Prop :=
  (env.kindOf x = some .local ∧ m x = some u) ∨ ((env.kindOf x = some .cell ∨ env.kindOf x = some .free) ∧ ∃ c, env.cells.lookup x = some c ∧ h.IsCell c (some u))
structure Cx.Ok (X : Cx) : Prop where
  mod : Mod X.K X.mg X.base
  kind : X.env.scope.kind = .function
  glob : X.env.globals = mainGlobals
  blt : X.env.builtins = builtinsNs
  above : X.s₀.heap.objs.size ≤ X.env.locals
  inj : ∀ x y c, X.env.cells.lookup x = some c → X.env.cells.lookup y = some c → x = y
  has : ∀ x, (X.env.kindOf x = some .cell ∨ X.env.kindOf x = some .free) → ∃ c, X.env.cells.lookup x = some c
  cab : ∀ x c, X.fn x = true → X.env.cells.lookup x = some c → X.s₀.heap.objs.size ≤ c
  hd : X.calm = true → X.A.handled = none
  frames : X.A.frames = some X.stack
  stk : X.stack = X.outer ∨ (X.stack = X.env :: X.outer ∧ X.env.frame = some X.env.locals)
  exf : ∀ b ∈ X.ex, b ≠ X.env.locals ∧ ∀ x c, X.env.cells.lookup x = some c → c ≠ b
  bs : ∀ b o, X.base.get? b = some o → X.s₀.heap.get? b = some o ∧ X.H₀ b = none
  bsz : X.base.objs.size ≤ X.s₀.heap.objs.size
  noex : ∀ b o, X.base.get? b = some o → b ∉ X.ex
  exfs : ∀ b ∈ X.ex, b ∉ X.fs
  funs : X.s₀.heap.FunFrames X.base X.outer
  frf : ∀ b ∈ X.fs, X.H₀ b = none
structure Inv (X : Cx) (pins : List (Addr × Obj)) (σ : List (Option V)) (H : Hp) (s : Shared) : Prop where
  ok : X.Ok
  os : s.os = X.s₀.os
  bare : AllBare s.gens
  base : Un X.fs X.ex X.H₀ H X.s₀.heap s.heap
  loc : ∃ m, s.heap.Ns X.env.locals m ∧ ∀ (i : Nat) (x : Str) (v : V), X.N[i]? = some x → σ[i]? = some (some v) → Vis X.env.scope x → ∃ u, RelV v u ∧ Look X.env s.heap m x u
  cell : ∀ x c, X.env.cells.lookup x = some c → ∃ v, s.heap.IsCell c v
  free : H X.env.locals = none
  freeC : ∀ x c, X.env.cells.lookup x = some c → H c = none
  pin : ∀ p ∈ X.pn ++ pins, s.heap.get? p.1 = some p.2 ∧ H p.1 = none ∧ p.1 ≠ X.env.locals ∧ p.1 ∉ X.fs ∧ ∀ v, p.2.data ≠ .cell v
  hok : HOk X.prog X.w H s.heap
  len : σ.length = X.N.length
section
variable {X : Cx} {pins : List (Addr × Obj)} {σ : List (Option V)} {H H' : Hp} {s : Shared} {h' : Heap}
theorem Cx.Ok.nofr (ok : X.Ok) {b : Addr} {o : Obj} (e : X.base.get? b = some o) : b ∉ X.fs := fun hb => by
  have := (ok.funs.mem hb).1
  rw [e] at this; cases this
theorem Inv.bs (I : Inv X pins σ H s) : ∀ b o, X.base.get? b = some o → s.heap.get? b = some o ∧ H b = none := fun b o e =>
  ⟨I.base.keep b o (I.ok.bs b o e).1 (I.ok.bs b o e).2 (I.ok.nofr e) (I.ok.noex b o e), I.base.free b o (I.ok.bs b o e).1 (I.ok.bs b o e).2 (I.ok.noex b o e)⟩
theorem Inv.bk (I : Inv X pins σ H s) : ∀ b o, X.base.get? b = some o → s.heap.get? b = some o := fun b o e => (I.bs b o e).1
theorem Inv.mod (I : Inv X pins σ H s) : Mod X.K X.mg X.base := I.ok.mod
theorem Inv.kIn (I : Inv X pins σ H s) : X.K.In s.heap := I.ok.mod.kin.keeps I.bk
theorem Inv.nolimit (I : Inv X pins σ H s) : s.heap.NoLimit := I.ok.mod.nolimit.keeps I.bk
theorem Inv.lt (I : Inv X pins σ H s) : X.env.locals < s.heap.objs.size := let ⟨_, hn, _⟩ := I.loc; hn.lt
theorem Inv.sz (I : Inv X pins σ H s) : X.s₀.heap.objs.size ≤ s.heap.objs.size := Nat.le_trans I.ok.above (Nat.le_of_lt I.lt)
theorem Inv.nofs (I : Inv X pins σ H s) {a : Addr} (h : s.heap.objs.size ≤ a) : a ∉ X.fs := fun hb => by
  obtain ⟨_, o, ho, _⟩ := I.ok.funs.mem hb
  exact absurd (Nat.lt_of_lt_of_le (Heap.lt_size ho) (Nat.le_trans I.sz h)) (Nat.lt_irrefl _)
theorem Inv.cne (I : Inv X pins σ H s) : ∀ x c, X.env.cells.lookup x = some c → c ≠ X.env.locals := fun x c e z => by
  obtain ⟨v, o, ho, hd⟩ := I.cell x c e
  obtain ⟨m, ⟨o', es, ep, ho', hd', _⟩, _⟩ := I.loc
  rw [z, ho'] at ho; cases ho; rw [hd'] at hd; cases hd
theorem Inv.funs (I : Inv X pins σ H s) : s.heap.FunFrames X.base X.outer := by
  have all : ∀ (l : List Env), (∀ b ∈ frs l, b ∈ X.fs) → X.s₀.heap.FunFrames X.base l → s.heap.FunFrames X.base l := by
    intro l
    induction l with
    | nil => intro _ _; trivial
    | cons env r ih =>
      intro hs hl
      obtain ⟨hk, ⟨L, o, hf, hn, ho, hd⟩, hr⟩ := hl
      have hL : L ∈ X.fs := hs L (by unfold frs; rw [List.filterMap_cons, hf]; exact List.mem_cons_self)
      obtain ⟨sl, e⟩ := I.base.slot L o ho (I.ok.frf L hL) hL fun z => I.ok.exfs L z hL
      exact ⟨hk, ⟨L, _, hf, hn, e, hd⟩, ih (fun b hb => hs b (by unfold frs; rw [List.filterMap_cons, hf]; exact List.mem_cons_of_mem _ hb)) hr⟩
  exact all X.outer (fun _ hb => hb) I.ok.funs
theorem Inv.stack (I : Inv X pins σ H s) : s.heap.FunFrames X.base X.stack := by
  rcases I.ok.stk with e | ⟨e, hf⟩
  · rw [e]; exact I.funs
  · rw [e]
    obtain ⟨m, hn, _⟩ := I.loc
    refine .cons (by rw [I.ok.kind]; decide) hf hn ?_ I.funs
    exact Heap.get?_none_of_le (Nat.le_trans I.ok.bsz I.ok.above)
theorem Inv.stkSub (I : Inv X pins σ H s) : ∀ b ∈ frs X.stack, b ∈ X.env.locals :: X.fs := fun b hb => by
  rcases I.ok.stk with e | ⟨e, hf⟩
  · rw [e] at hb; exact List.mem_cons_of_mem _ hb
  · rw [e] at hb
    unfold frs at hb
    rw [List.filterMap_cons, hf] at hb
    exact hb
theorem Inv.stkFree (I : Inv X pins σ H s) : ∀ b ∈ frs X.stack, H b = none := fun b hb => by
  rcases List.mem_cons.mp (I.stkSub b hb) with e | hb
  · rw [e]; exact I.free
  · obtain ⟨_, o, ho, _⟩ := I.ok.funs.mem hb
    exact I.base.free b o ho (I.ok.frf b hb) fun z => I.ok.exfs b z hb
theorem Inv.step {g' : Array GenState} {t' : Nat} {d' : Drawn} {ch : List Addr} (I : Inv X pins σ H s)
    (hch : ∀ b ∈ ch, (b ∈ X.ex ∨ X.s₀.heap.objs.size ≤ b) ∧ b ≠ X.env.locals ∧ (∀ x c, X.env.cells.lookup x = some c → c ≠ b) ∧ ∀ p ∈ X.pn ++ pins, p.1 ≠ b)
    (keep : ∀ b o, b ≠ X.env.locals → b ∉ X.fs → b ∉ ch → s.heap.get? b = some o → H b = none → h'.get? b = some o)
    (slot : ∀ b o, b ≠ X.env.locals → b ∈ X.fs → b ∉ ch → s.heap.get? b = some o → H b = none → ∃ sl, h'.get? b = some { o with slots := sl }) (free : ∀ b o, b ∉ ch → s.heap.get? b = some o → H b = none → H' b = none)
    (there : ∀ b o, b ∉ ch → s.heap.get? b = some o → ∃ o', h'.get? b = some o')
    (tups : ∀ b xs, H b = some (.tup xs) → H' b = some (.tup xs)) (frzs : ∀ b o u, H b = some (.frz o u) → H' b = some (.frz o u)) (tbls : ∀ b ps, H b = some (.tbl ps) → ∃ more, H' b = some (.tbl (ps ++ more)))
    (ns : ∀ m, s.heap.Ns X.env.locals m → h'.Ns X.env.locals m) (hok : HOk X.prog X.w H' h') (hg : AllBare g') :
    Inv X pins σ H' { s with heap := h', gens := g', drawn := d', toks := t' } := by
  have neL : ∀ b o, X.s₀.heap.get? b = some o → b ≠ X.env.locals := fun b o e => Nat.ne_of_lt (Nat.lt_of_lt_of_le (Heap.lt_size e) I.ok.above)
  have neC : ∀ b o, X.s₀.heap.get? b = some o → b ∉ X.ex → b ∉ ch := fun b o e hx hb => by
    rcases (hch b hb).1 with z | z
    · exact hx z
    · exact absurd (Nat.lt_of_lt_of_le (Heap.lt_size e) z) (Nat.lt_irrefl _)
  have cellK : ∀ x c, X.env.cells.lookup x = some c → ∀ v, s.heap.IsCell c v → h'.IsCell c v := fun x c e v ⟨o, ho, hd⟩ => by
    have nch : c ∉ ch := fun z => (hch c z).2.2.1 x c e rfl
    by_cases hc : c ∈ X.fs
    · obtain ⟨sl, q⟩ := slot c o (I.cne x c e) hc nch ho (I.freeC x c e)
      exact ⟨_, q, hd⟩
    · exact ⟨o, keep c o (I.cne x c e) hc nch ho (I.freeC x c e), hd⟩
  refine ⟨I.ok, I.os, hg, ⟨fun b o e n hb hx => ?_, fun b o e n hb hx => ?_, fun b o e n hx => ?_, fun b o e hx => ?_, fun b xs e => tups b xs (I.base.tups b xs e), fun b o xs e => frzs b o xs (I.base.frzs b o xs e), fun b ps e => ?_⟩, ?_, fun x c e => ?_, ?_, fun x c e => ?_, fun p hp => ?_, hok, I.len⟩
  · exact keep b o (neL b o e) hb (neC b o e hx) (I.base.keep b o e n hb hx) (I.base.free b o e n hx)
  · obtain ⟨sl, e1⟩ := I.base.slot b o e n hb hx
    obtain ⟨sl', e2⟩ := slot b _ (neL b o e) hb (neC b o e hx) e1 (I.base.free b o e n hx)
    exact ⟨sl', e2⟩
  · obtain ⟨o', e1⟩ := I.base.there b o e hx
    exact free b o' (neC b o e hx) e1 (I.base.free b o e n hx)
  · obtain ⟨o', e1⟩ := I.base.there b o e hx
    exact there b o' (neC b o e hx) e1
  · obtain ⟨m1, e1⟩ := I.base.tbls b ps e
    obtain ⟨m2, e2⟩ := tbls b _ e1
    exact ⟨m1 ++ m2, by rw [e2, Array.append_assoc]⟩
  · obtain ⟨m, hn, hl⟩ := I.loc
    refine ⟨m, ns m hn, fun i x v e1 e2 e3 => ?_⟩
    obtain ⟨u, r, l⟩ := hl i x v e1 e2 e3
    refine ⟨u, r, ?_⟩
    rcases l with l | ⟨k, c, e, z⟩
    · exact .inl l
    · exact .inr ⟨k, c, e, cellK x c e _ z⟩
  · obtain ⟨v, z⟩ := I.cell x c e
    exact ⟨v, cellK x c e v z⟩
  · obtain ⟨m, ⟨o, _, _, ho, _⟩, _⟩ := I.loc
    exact free _ o (fun z => (hch _ z).2.1 rfl) ho I.free
  · obtain ⟨v, o, ho, hd⟩ := I.cell x c e
    exact free c o (fun z => (hch c z).2.2.1 x c e rfl) ho (I.freeC x c e)
  · obtain ⟨e, n, ne, nf, d⟩ := I.pin p hp
    have nch : p.1 ∉ ch := fun z => (hch p.1 z).2.2.2 p hp rfl
    exact ⟨keep p.1 p.2 ne nf nch e n, free p.1 p.2 nch e n, ne, nf, d⟩
theorem Inv.un {t' : Nat} (I : Inv X pins σ H s) (u : Un X.fs [] H H' s.heap h') (hok : HOk X.prog X.w H' h') : Inv X pins σ H' { s with heap := h', toks := t' } := by
  obtain ⟨m, ⟨o, es, ep, ho, r⟩, _⟩ := id I.loc
  obtain ⟨sl, hL⟩ := u.any ho I.free (by simp)
  exact I.step (g' := s.gens) (d' := s.drawn) (ch := []) (fun _ z => nomatch z) (fun b o _ hb _ e n => u.keep b o e n hb (by simp)) (fun b o _ hb _ e n => u.slot b o e n hb (by simp)) (fun b o _ e n => u.free b o e n (by simp)) (fun b o _ e => u.there b o e (by simp)) u.tups u.frzs u.tbls (fun m' hm => by
    obtain ⟨o', es', ep', ho', r'⟩ := hm
    rw [ho] at ho'; cases ho'
    exact ⟨_, es', ep', hL, r'⟩) hok I.bare
theorem Inv.call {g' : Array GenState} {t' : Nat} {d' : Drawn} {ch : List Addr} (I : Inv X pins σ H s) (u : Un (frs X.stack) ch H H' s.heap h') (hok : HOk X.prog X.w H' h') (hg : AllBare g')
    (hch : ∀ b ∈ ch, (b ∈ X.ex ∨ X.s₀.heap.objs.size ≤ b) ∧ b ≠ X.env.locals ∧ (∀ x c, X.env.cells.lookup x = some c → c ≠ b) ∧ ∀ p ∈ X.pn ++ pins, p.1 ≠ b) :
    Inv X pins σ H' { s with heap := h', gens := g', drawn := d', toks := t' } := by
  obtain ⟨m, ⟨o, es, ep, ho, r⟩, _⟩ := id I.loc
  obtain ⟨sl, hL⟩ := u.any ho I.free fun z => (hch _ z).2.1 rfl
  exact I.step (ch := ch) hch (fun b o hL hb hc e n => u.keep b o e n (fun z => (List.mem_cons.mp (I.stkSub b z)).elim hL hb) hc) (fun b o _ _ hc e n => u.any e n hc) (fun b o hc e n => u.free b o e n hc) (fun b o hc e => u.there b o e hc) u.tups u.frzs u.tbls (fun m' hm => by
    obtain ⟨o', es', ep', ho', r'⟩ := hm
    rw [ho] at ho'; cases ho'
    exact ⟨_, es', ep', hL, r'⟩) hok hg
theorem Inv.turned {t' : Nat} {it : Addr} (I : Inv X pins σ H s) (k : ∀ b o, b ≠ it → s.heap.get? b = some o → h'.get? b = some o) (hn : H it = none) (hL : it ≠ X.env.locals)
    (h1 : it ∈ X.ex ∨ X.s₀.heap.objs.size ≤ it) (h2 : ∀ x c, X.env.cells.lookup x = some c → c ≠ it) (h3 : ∀ p ∈ X.pn ++ pins, p.1 ≠ it) : Inv X pins σ H { s with heap := h', toks := t' } := by
  have nit : ∀ b u, H b = some u → b ≠ it := fun b u e z => by rw [z, hn] at e; cases e
  refine I.step (g' := s.gens) (d' := s.drawn) (ch := [it]) (fun b hb => ?_) (fun b o _ _ hc e _ => k b o (fun z => hc (by simp [z])) e) (fun b o _ _ hc e _ => ⟨o.slots, k b o (fun z => hc (by simp [z])) e⟩) (fun _ _ _ _ n => n)
    (fun b o hc e => ⟨o, k b o (fun z => hc (by simp [z])) e⟩) (fun _ _ e => e) (fun _ _ _ e => e) (fun b ps e => ⟨#[], by rw [e]; simp⟩) (fun m hm => ?_) (fun b u e => ?_) I.bare
  · have e : b = it := by simpa using hb
    subst e
    exact ⟨h1, hL, h2, h3⟩
  · obtain ⟨o, es, ep, ho, r⟩ := hm
    exact ⟨o, es, ep, k _ o (Ne.symm hL) ho, r⟩
  · refine (I.hok b u e).stay (fun c v hc q => k c v ?_ q) (fun _ q => q) fun _ _ q => q
    rcases hc with z | z
    · rw [z]; exact nit b u e
    · exact nit c _ z
theorem Inv.tok (I : Inv X pins σ H s) (t : Nat) : Inv X pins σ H { s with toks := t } := I.un (h' := s.heap) (t' := t) Un.refl I.hok
theorem Inv.kept {t' : Nat} (I : Inv X pins σ H s) (k : ∀ b u, s.heap.get? b = some u → h'.get? b = some u) : Inv X pins σ H { s with heap := h', toks := t' } := I.un (Un.kept k) (I.hok.kept k)
theorem Inv.laid {a : Addr} {o : HO} {t' : Nat} (I : Inv X pins σ H s) (k : ∀ b u, s.heap.get? b = some u → h'.get? b = some u) (hp : s.heap.objs.size ≤ a) (new : ObjOk X.prog X.w (upd H a o) h' a o) :
    Inv X pins σ (upd H a o) { s with heap := h', toks := t' } := I.un (Un.laid k hp (I.hok.fresh hp)) (I.hok.laid k hp new)
theorem Inv.write {x e : Addr} {o : HO} {t' : Nat} (I : Inv X pins σ H s) (mu : Mut (H x)) (he : e = x ∨ H e = some (.own x)) (k : ∀ b u, b ≠ e → s.heap.get? b = some u → h'.get? b = some u) (heo : ∃ u, h'.get? e = some u)
    (new : ObjOk X.prog X.w (upd H x o) h' x o) : Inv X pins σ (upd H x o) { s with heap := h', toks := t' } := I.un (Un.write mu he k heo) (I.hok.write mu he k heo new)
theorem Inv.pins_of {pins' : List (Addr × Obj)} (I : Inv X pins σ H s) (h : ∀ p ∈ pins', s.heap.get? p.1 = some p.2 ∧ H p.1 = none ∧ p.1 ≠ X.env.locals ∧ p.1 ∉ X.fs ∧ ∀ v, p.2.data ≠ .cell v) : Inv X pins' σ H s :=
  ⟨I.ok, I.os, I.bare, I.base, I.loc, I.cell, I.free, I.freeC, fun p hp => (List.mem_append.mp hp).elim (fun z => I.pin p (List.mem_append_left _ z)) (h p), I.hok, I.len⟩
theorem nodup_ix {N : List Str} (hN : N.Nodup) {i j : Nat} {x : Str} (a : N[i]? = some x) (b : N[j]? = some x) : i = j := by
  obtain ⟨h1, e1⟩ := List.getElem?_eq_some_iff.mp a
  obtain ⟨h2, e2⟩ := List.getElem?_eq_some_iff.mp b
  exact (List.getElem_inj hN).mp (e1.trans e2.symm)
theorem store_ok2 {M : Model} {A : Around} {E : Value → Shared → Prop} {i : Nat} {x : Str} {v : V} {u : Value} {Q : Unit → Shared → Prop} (I : Inv X pins σ H s) (hN : X.N.Nodup) (hi : X.N[i]? = some x) (hx : Loc X.env.scope x) (r : RelV v u)
    (h : ∀ s', Inv X pins (σ.set i (some v)) H s' → (∃ a, Heap.SameBut a s.heap s'.heap ∧ (a = X.env.locals ∨ X.env.cells.lookup x = some a)) → Q () s') (hf : X.fn x = true ∨ X.env.scope.names.lookup x = some .local := by first | exact .inl rfl | exact .inr rfl | assumption) : wpAny M A (storeName X.env x u) Q E s := by
  obtain ⟨m, hn, hl⟩ := id I.loc
  have hcls : (X.env.scope.kind == .class || (X.env.scope.kind == .module && X.env.locals != X.env.globals)) = false := by rw [I.ok.kind]; rfl
  have hiσ : i < σ.length := by rw [I.len]; exact (List.getElem?_eq_some_iff.mp hi).1
  have cne := I.cne
  have tracked : ∀ {a : Addr} {h' : Heap}, (∃ o, s.heap.get? a = some o ∧ H a = none) → Heap.SameBut a s.heap h' → HOk X.prog X.w H h' := fun {a h'} ha hs b ob e => by
    obtain ⟨_, _, hfree⟩ := ha
    refine (I.hok b ob e).stay (fun c w' hc q => (hs.2 c ?_).trans q) (fun _ q => q) fun _ _ q => q
    rintro rfl
    rcases hc with rfl | hc
    · rw [hfree] at e; cases e
    · rw [hfree] at hc; cases hc
  rcases hx with hk | hk
  · refine wpAny_storeName_local hk hn (fun h' hn' hs => ?_) hcls
    obtain ⟨oL, _, _, hoL, _⟩ := id hn
    refine h _ ⟨I.ok, I.os, I.bare, ⟨fun b o e n hb hx => ?_, fun b o e n hb hx => ?_, I.base.free, fun b o e hx => ?_, I.base.tups, I.base.frzs, I.base.tbls⟩, ⟨_, hn', fun j y v' e1 e2 e3 => ?_⟩, fun y c e => ?_, I.free, I.freeC, fun p hp => ?_, tracked ⟨oL, hoL, I.free⟩ hs, by simpa using I.len⟩ ⟨_, hs, .inl rfl⟩
    · exact (hs.2 b (Nat.ne_of_lt (Nat.lt_of_lt_of_le (Heap.lt_size e) I.ok.above))).trans (I.base.keep b o e n hb hx)
    · obtain ⟨sl, e1⟩ := I.base.slot b o e n hb hx
      exact ⟨sl, (hs.2 b (Nat.ne_of_lt (Nat.lt_of_lt_of_le (Heap.lt_size e) I.ok.above))).trans e1⟩
    · obtain ⟨o', e1⟩ := I.base.there b o e hx
      exact ⟨o', (hs.2 b (Nat.ne_of_lt (Nat.lt_of_lt_of_le (Heap.lt_size e) I.ok.above))).trans e1⟩
    · by_cases hj : j = i
      · subst hj
        rw [hi] at e1; cases e1
        rw [List.getElem?_set_self hiσ] at e2
        cases e2
        exact ⟨u, r, .inl ⟨hk, by simp⟩⟩
      · rw [List.getElem?_set_ne (Ne.symm hj)] at e2
        obtain ⟨u', r', q⟩ := hl j y v' e1 e2 e3
        refine ⟨u', r', ?_⟩
        rcases q with ⟨k, e⟩ | ⟨k, c, e, z⟩
        · refine .inl ⟨k, ?_⟩
          have : y ≠ x := fun e => hj (nodup_ix hN e1 (e ▸ hi))
          simp [this, e]
        · exact .inr ⟨k, c, e, z.sameBut hs (cne y c e)⟩
    · obtain ⟨w', z⟩ := I.cell y c e
      exact ⟨w', z.sameBut hs (cne y c e)⟩
    · obtain ⟨e, n, ne, nf, d⟩ := I.pin p hp
      exact ⟨(hs.2 p.1 ne).trans e, n, ne, nf, d⟩
  · have hfn : X.fn x = true := by
      rcases hf with z | z
      · exact z
      · rw [z] at hk; cases hk
    obtain ⟨c, hc⟩ := I.ok.has x (.inl hk)
    obtain ⟨w', z⟩ := I.cell x c hc
    refine wpAny_storeName_cell I.ok.kind hk hc z (fun h' hc' hs => ?_)
    obtain ⟨oc, hoc, hocd⟩ := id z
    refine h { s with heap := h' } ⟨I.ok, I.os, I.bare, ⟨fun b o e n hb hx => ?_, fun b o e n hb hx => ?_, I.base.free, fun b o e hx => ?_, I.base.tups, I.base.frzs, I.base.tbls⟩, ⟨m, hn.sameBut hs (Ne.symm (cne x c hc)), fun j y v' e1 e2 e3 => ?_⟩, fun y c' e => ?_, I.free, I.freeC, fun p hp => ?_, tracked ⟨oc, hoc, I.freeC x c hc⟩ hs, by simpa using I.len⟩ ⟨c, hs, .inr hc⟩
    · exact (hs.2 b (Nat.ne_of_lt (Nat.lt_of_lt_of_le (Heap.lt_size e) (I.ok.cab x c hfn hc)))).trans (I.base.keep b o e n hb hx)
    · obtain ⟨sl, e1⟩ := I.base.slot b o e n hb hx
      exact ⟨sl, (hs.2 b (Nat.ne_of_lt (Nat.lt_of_lt_of_le (Heap.lt_size e) (I.ok.cab x c hfn hc)))).trans e1⟩
    · obtain ⟨o', e1⟩ := I.base.there b o e hx
      exact ⟨o', (hs.2 b (Nat.ne_of_lt (Nat.lt_of_lt_of_le (Heap.lt_size e) (I.ok.cab x c hfn hc)))).trans e1⟩
    · by_cases hj : j = i
      · subst hj
        rw [hi] at e1; cases e1
        rw [List.getElem?_set_self hiσ] at e2
        cases e2
        exact ⟨u, r, .inr ⟨.inl hk, c, hc, hc'⟩⟩
      · rw [List.getElem?_set_ne (Ne.symm hj)] at e2
        obtain ⟨u', r', q⟩ := hl j y v' e1 e2 e3
        refine ⟨u', r', ?_⟩
        rcases q with q | ⟨k, c', e, z'⟩
        · exact .inl q
        · refine .inr ⟨k, c', e, z'.sameBut hs ?_⟩
          rintro rfl
          exact hj (nodup_ix hN e1 (I.ok.inj _ _ _ e hc ▸ hi))
    · by_cases hcc : c' = c
      · subst hcc; exact ⟨_, hc'⟩
      · obtain ⟨w2, z2⟩ := I.cell y c' e
        exact ⟨w2, z2.sameBut hs hcc⟩
    · obtain ⟨e, n, ne, nf, d⟩ := I.pin p hp
      refine ⟨(hs.2 p.1 ?_).trans e, n, ne, nf, d⟩
      intro q
      rw [q, hoc] at e
      have q' : oc = p.2 := Option.some.inj e
      exact d w' (by rw [← q']; exact hocd)
theorem store_ok {M : Model} {A : Around} {E : Value → Shared → Prop} {i : Nat} {x : Str} {v : V} {u : Value} {Q : Unit → Shared → Prop} (I : Inv X pins σ H s) (hN : X.N.Nodup) (hi : X.N[i]? = some x) (hx : Loc X.env.scope x) (r : RelV v u)
    (h : ∀ s', Inv X pins (σ.set i (some v)) H s' → Q () s') (hf : X.fn x = true ∨ X.env.scope.names.lookup x = some .local := by first | exact .inl rfl | exact .inr rfl | assumption) : wpAny M A (storeName X.env x u) Q E s :=
  store_ok2 I hN hi hx r (fun s' I' _ => h s' I') hf
theorem Inv.call' {s' : Shared} {ch : List Addr} (I : Inv X pins σ H s) (ho : s'.os = s.os) (u : Un (frs X.stack) ch H H' s.heap s'.heap) (hok : HOk X.prog X.w H' s'.heap) (hg : AllBare s'.gens)
    (hch : ∀ b ∈ ch, (b ∈ X.ex ∨ X.s₀.heap.objs.size ≤ b) ∧ b ≠ X.env.locals ∧ (∀ x c, X.env.cells.lookup x = some c → c ≠ b) ∧ ∀ p ∈ X.pn ++ pins, p.1 ≠ b) : Inv X pins σ H' s' := by
  obtain ⟨h', g', d', t', o'⟩ := s'
  have e : o' = s.os := ho
  subst e
  exact I.call (g' := g') (t' := t') (d' := d') u hok hg hch
end
abbrev XK := Value → Option Addr → Hp → Prop
abbrev St := List (Option V)
abbrev VK := V → Hp → Prop
abbrev TE := St → Hp → VK → Prop
abbrev TT := St → Hp → (Bool → Hp → Prop) → Prop
abbrev TA := St → Hp → (List V → Hp → Prop) → Prop
structure Ends where
  nx : St → Hp → Prop
  rt : VK
  bk : St → Hp → Prop := fun _ _ => False
  ct : St → Hp → Prop := fun _ _ => False
abbrev TS := Ends → St → Hp → Prop
def EP (X : Cx) (pins : List (Addr × Obj)) (σ : St) (Q : VK) (u : Value) (s' : Shared) : Prop := ∃ v H', Inv X pins σ H' s' ∧ RelV v u ∧ Q v H'
def TP (X : Cx) (pins : List (Addr × Obj)) (σ : St) (Q : Bool → Hp → Prop) (b : Bool) (s' : Shared) : Prop := ∃ H', Inv X pins σ H' s' ∧ Q b H'
def AP (X : Cx) (pins : List (Addr × Obj)) (σ : St) (Q : List V → Hp → Prop) (us : List Value) (s' : Shared) : Prop := ∃ vs H', Inv X pins σ H' s' ∧ Vals vs us ∧ Q vs H'
def SP (X : Cx) (pins : List (Addr × Obj)) (D : Ends) (f : Flow) (s' : Shared) : Prop :=
  match f with
  | .next => ∃ σ' H', Inv X pins σ' H' s' ∧ D.nx σ' H'
  | .brk => ∃ σ' H', Inv X pins σ' H' s' ∧ D.bk σ' H'
  | .cont => ∃ σ' H', Inv X pins σ' H' s' ∧ D.ct σ' H'
  | .ret u => ∃ v σ' H', Inv X pins σ' H' s' ∧ RelV v u ∧ D.rt v H'
def PE (X : Cx) (e : Expr) (t : TE) : Prop :=
  ∀ (pins : List (Addr × Obj)) (s : Shared) (σ : St) (H : Hp) (Q : VK), Inv X pins σ H s → t σ H Q → wpAny (model X.prog X.w) X.A (eval e X.env) (EP X pins σ Q) X.xe s
def PT (X : Cx) (e : Expr) (t : TT) : Prop :=
  ∀ (pins : List (Addr × Obj)) (s : Shared) (σ : St) (H : Hp) (Q : Bool → Hp → Prop), Inv X pins σ H s → t σ H Q → wpAny (model X.prog X.w) X.A (isTrue e X.env (eval e X.env)) (TP X pins σ Q) X.xe s
def PW (X : Cx) (e : Expr) (t : TT) : Prop :=
  ∀ (whole : Sem Value) (pins : List (Addr × Obj)) (s : Shared) (σ : St) (H : Hp) (Q : Bool → Hp → Prop), Inv X pins σ H s → t σ H Q → wpAny (model X.prog X.w) X.A (isTrue e X.env whole) (TP X pins σ Q) X.xe s
theorem PW.pt {X : Cx} {e : Expr} {t : TT} (h : PW X e t) : PT X e t := h _
def PA (X : Cx) (es : List Expr) (t : TA) : Prop :=
  ∀ (pos : Pos) (pins : List (Addr × Obj)) (s : Shared) (σ : St) (H : Hp) (Q : List V → Hp → Prop), Inv X pins σ H s → t σ H Q → wpAny (model X.prog X.w) X.A (spliced (backTo pos (starEach es X.env))) (AP X pins σ Q) X.xe s
def PS (X : Cx) (st : Stmt) (t : TS) : Prop :=
  ∀ (pins : List (Addr × Obj)) (s : Shared) (σ : St) (H : Hp) (D : Ends), Inv X pins σ H s → t D σ H → wpAny (model X.prog X.w) X.A (exec st X.env) (SP X pins D) X.xe s
def PSs (X : Cx) (st : List Stmt) (t : TS) : Prop :=
  ∀ (pins : List (Addr × Obj)) (s : Shared) (σ : St) (H : Hp) (D : Ends), Inv X pins σ H s → t D σ H → wpAny (model X.prog X.w) X.A (execs st X.env) (SP X pins D) X.xe s
theorem thn {α : Type} {t : Sem α} {Q Q' : α → Shared → Prop} {M : Model} {A : Around} {E : Value → Shared → Prop} {s : Shared} (h : wpAny M A t Q E s) (hQ : ∀ a s, Q a s → Q' a s) : wpAny M A t Q' E s := wpAny_mono h hQ fun _ _ x => x
end L2
namespace L2
open PySem PySem.Spec PyProof.Rows
section
variable {X : Cx}
def tVar (i : Nat) : TE := fun σ H Q => ∃ v, σ[i]? = some (some v) ∧ Q v H
def tC (v : V) : TE := fun _ H Q => Q v H
theorem pe_var {i : Nat} {x : Str} {pos : Pos} (hN : X.N[i]? = some x) (hv : Vis X.env.scope x) (hd : (x == ("__debug__" : Str)) = false := by decide) (hcd : (x == ("__classdict__" : Str)) = false := by decide) : PE X (.Name x pos) (tVar i) := by
  intro pins s σ H Q I h
  obtain ⟨v, e, h⟩ := h
  obtain ⟨m, hn, hl⟩ := I.loc
  obtain ⟨u, r, l⟩ := hl i x v hN e hv
  have fin : EP X pins σ Q u s := ⟨v, H, I, r, h⟩
  rcases l with ⟨hk, hm⟩ | ⟨hk, c, hc, hcell⟩
  · exact wpAny_Name (wpAny_loadName_local I.ok.kind hk hn hm fin) hd
  · rcases hk with hk | hk
    · exact wpAny_Name (wpAny_loadName_cell I.ok.kind hk hc hcell fin) hd
    · exact wpAny_Name (wpAny_loadName_free I.ok.kind hk hc hcell fin hcd) hd
theorem pe_int {i j pos} : PE X (.Constant (.int i) j pos) (tC (.int i)) := fun _ _ _ H _ I h => wpAny_Constant_int ⟨.int i, H, I.tok _, ⟨_, rfl⟩, h⟩
theorem pe_bl {b j pos} : PE X (.Constant (.bool b) j pos) (tC (.bl b)) := fun _ _ _ H _ I h => Constant_bool ⟨.bl b, H, I, rfl, h⟩
theorem pe_non {j pos} : PE X (.Constant .none j pos) (tC .non) := fun _ _ _ H _ I h => Constant_none ⟨.non, H, I, rfl, h⟩
def Gl (X : Cx) (x : Str) : Prop := X.env.kindOf x = some .globalImplicit
theorem ld_glob {E : Value → Shared → Prop} {pins : List (Addr × Obj)} {s : Shared} {σ : St} {H : Hp} {x : Str} {u : Value} {pos : Pos} {Q : Value → Shared → Prop} (I : Inv X pins σ H s) (hg : Gl X x) (hm : X.mg x = some u) (h : Q u s)
    (hd : (x == ("__debug__" : Str)) = false := by decide) : wpAny (model X.prog X.w) X.A (eval (.Name x pos) X.env) Q E s :=
  Calls.Name_function_global I.ok.kind hg (Calls.loadGlobal_global (by rw [I.ok.glob]; exact I.mod.glob.keeps I.bk) hm h) hd
theorem ld_blt {E : Value → Shared → Prop} {pins : List (Addr × Obj)} {s : Shared} {σ : St} {H : Hp} {x : Str} {u : Value} {pos : Pos} {Q : Value → Shared → Prop} (I : Inv X pins σ H s) (hg : Gl X x) (hm : X.mg x = none) (hv : bootBuiltins x = some u) (h : Q u s)
    (hn : x ≠ "__name__" := by decide) (hd : (x == ("__debug__" : Str)) = false := by decide) : wpAny (model X.prog X.w) X.A (eval (.Name x pos) X.env) Q E s := by
  obtain ⟨mb, h1, h2⟩ := I.mod.blt
  exact Calls.Name_function_global I.ok.kind hg (Calls.loadGlobal_builtin (by rw [I.ok.glob]; exact I.mod.glob.keeps I.bk) hm (by rw [I.ok.blt]; exact h1.keeps I.bk) ((h2 x hn).trans hv) h) hd
variable {a b : Expr} {ta tb : TE} {pos : Pos}
def tB (t : TE) : TT := fun σ H Q => t σ H fun x H1 => ∃ c, x = .bl c ∧ Q c H1
theorem pt_val {e : Expr} {t : TE} (h : PE X e t) (he : ∀ whole, isTrue e X.env whole = (do let v ← whole; standAt e.pos; holding [v] (truthy v)) := by intro _; rfl) : PT X e (tB t) := by
  intro pins s σ H Q I hw
  refine isTrue_plain (thn (h pins s σ H _ I hw) fun v s1 ⟨x, H1, I1, r1, q1⟩ => ?_) (he _)
  obtain ⟨d, rfl, q⟩ := q1
  cases r1
  exact wpAny_truthy_bool ⟨H1, I1, q⟩
variable {tA tB' : TT} {rest : List Expr}
def tAnd (t u : TT) : TT := fun σ H Q => t σ H fun c H1 => if c = true then u σ H1 Q else Q false H1
theorem pw_and1 (ha : PT X a tA) : PW X (.BoolOp .And [a] pos) tA := by
  intro wh pins s σ H Q I h
  refine isTrue_and (thn (ha pins s σ H Q I h) fun c s1 e => ?_)
  cases c with
  | true => exact isTrue_and_nil e
  | false => exact e
theorem pw_and (ha : PT X a tA) (hb : PW X (.BoolOp .And (b :: rest) pos) tB') : PW X (.BoolOp .And (a :: b :: rest) pos) (tAnd tA tB') := by
  intro wh pins s σ H Q I h
  refine isTrue_and (thn (ha pins s σ H _ I h) fun c s1 ⟨H1, I1, q1⟩ => ?_)
  cases c with
  | true => exact hb wh pins s1 σ H1 Q I1 q1
  | false => exact ⟨H1, I1, q1⟩
def tAndV (ta tb : TE) : TE := fun σ H Q => ta σ H fun x H1 => ∃ c, x = .bl c ∧ if c = true then tb σ H1 Q else Q (.bl false) H1
theorem pe_one {op} {t : TE} (h : PE X a t) : PE X (.BoolOp op [a] pos) t := fun pins s σ H Q I hw => BoolOp_one (h pins s σ H Q I hw)
theorem pe_and (ha : PE X a ta) (hb : PE X (.BoolOp .And (b :: rest) pos) tb) : PE X (.BoolOp .And (a :: b :: rest) pos) (tAndV ta tb) := by
  intro pins s σ H Q I h
  refine BoolOp_and (thn (ha pins s σ H _ I h) fun v s1 ⟨x, H1, I1, r1, q1⟩ => ?_)
  obtain ⟨c, rfl, q1⟩ := q1
  cases r1
  refine wpAny_truthy_bool ?_
  cases c with
  | true => exact hb pins s1 σ H1 Q I1 q1
  | false => exact ⟨.bl false, H1, I1, rfl, q1⟩
end
end L2
namespace L2
open PySem PySem.Spec PyProof.Rows
def SqL (K : PySem.W.Frag) (H : Hp) (a : Addr) (xs : List V) : Prop :=
  Rd H a (.lst xs) ∨
    ∃ (o : Obj) (its : Array Value) (n : Nat), K.lookup a = some o ∧ o.cls = .type "list" ∧ o.dict = none ∧ o.data = .seq its n ∧ its.size ≤ sizeLine ∧ Vals xs its.toList
def SqT (K : PySem.W.Frag) (H : Hp) (a : Addr) (xs : List V) : Prop :=
  Rd H a (.tup xs) ∨
    ∃ (o : Obj) (its : Array Value) (n : Nat), K.lookup a = some o ∧ o.cls = .type "tuple" ∧ o.data = .seq its n ∧ its.size ≤ sizeLine ∧ Vals xs its.toList
def absV : Value → Option V
  | .none => some .non
  | .bool b => some (.bl b)
  | .int i _ => some (.int i)
  | .str x _ => some (.str x)
  | .bytes b _ => some (.byt b)
  | .float b _ => some (.flt b)
  | .ref a => some (.ref a)
  | .type n => some (.ty n)
  | _ => none
theorem RelV.abs {x : V} {u : Value} (r : RelV x u) : absV u = some x := by
  cases x with
  | non => cases r; rfl
  | bl _ => cases r; rfl
  | int _ => obtain ⟨t, rfl⟩ := r; rfl
  | str _ => obtain ⟨t, rfl⟩ := r; rfl
  | byt _ => obtain ⟨t, rfl⟩ := r; rfl
  | flt _ => obtain ⟨t, rfl⟩ := r; rfl
  | ref _ => cases r; rfl
  | ty _ => cases r; rfl
theorem RelV.inj {x y : V} {u : Value} (r : RelV x u) (q : RelV y u) : x = y := Option.some.inj (r.abs.symm.trans q.abs)
theorem Vals.inj : ∀ {xs ys : List V} {us : List Value}, Vals xs us → Vals ys us → xs = ys
  | _, _, _, .nil, .nil => rfl
  | _, _, _, .cons r t, .cons r' t' => by rw [r.inj r', Vals.inj t t']
section
variable {X : Cx} {pins : List (Addr × Obj)} {σ : St} {H : Hp} {s : Shared} {a : Addr} {xs ys : List V}
theorem SqL.of {K : PySem.W.Frag} (h : H a = some (.lst xs)) : SqL K H a xs := .inl (.inl h)
theorem SqT.of {K : PySem.W.Frag} (h : H a = some (.tup xs)) : SqT K H a xs := .inl (.inl h)
theorem Inv.list (I : Inv X pins σ H s) (h : SqL X.K H a xs) : ∃ its : List Value, Vals xs its ∧ PlainL s.heap a its.toArray ∧ xs.length ≤ sizeLine := by
  rcases h with h | ⟨o, its, n, hk, hc, hd, hs, hz, r⟩
  · obtain ⟨z, its, n, r, e⟩ := h.ok I.hok
    exact ⟨its, r, ⟨_, n, e, rfl, rfl, rfl⟩, z⟩
  · refine ⟨its.toList, r, ⟨o, n, I.kIn a o hk, hc, hd, by simpa using hs⟩, ?_⟩
    have e := r.length
    simp only [Array.length_toList] at e
    omega
theorem Inv.tuple (I : Inv X pins σ H s) (h : SqT X.K H a xs) : ∃ its : List Value, Vals xs its ∧ IsTup s.heap a its.toArray ∧ xs.length ≤ sizeLine := by
  rcases h with h | ⟨o, its, n, hk, hc, hs, hz, r⟩
  · obtain ⟨z, its, r, p⟩ := h.ok I.hok
    exact ⟨its, r, p, z⟩
  · refine ⟨its.toList, r, ⟨o, I.kIn a o hk, hc, n, by simpa using hs⟩, ?_⟩
    have e := r.length
    simp only [Array.length_toList] at e
    omega
theorem Inv.list_inj (I : Inv X pins σ H s) (h : SqL X.K H a xs) (h' : SqL X.K H a ys) : xs = ys := by
  obtain ⟨its, r, ⟨o, n, e, _, _, d⟩, _⟩ := I.list h
  obtain ⟨its', r', ⟨o', n', e', _, _, d'⟩, _⟩ := I.list h'
  rw [e] at e'; cases e'
  rw [d] at d'
  injection d' with d1 _
  have : its = its' := by simpa using congrArg Array.toList d1
  subst this
  exact r.inj r'
theorem Inv.tuple_inj (I : Inv X pins σ H s) (h : SqT X.K H a xs) (h' : SqT X.K H a ys) : xs = ys := by
  obtain ⟨its, r, ⟨o, e, _, n, d⟩, _⟩ := I.tuple h
  obtain ⟨its', r', ⟨o', e', _, n', d'⟩, _⟩ := I.tuple h'
  rw [e] at e'; cases e'
  rw [d] at d'
  injection d' with d1 _
  have : its = its' := by simpa using congrArg Array.toList d1
  subst this
  exact r.inj r'
end
abbrev Cx.wish (X : Cx) (E : Value → Shared → Prop) : Cx := { X with xe := E }
abbrev Cx.nox (X : Cx) : Cx := X.wish fun _ _ => False
theorem Cx.Ok.wish {X : Cx} (ok : X.Ok) (E : Value → Shared → Prop) : (X.wish E).Ok :=
  ⟨ok.mod, ok.kind, ok.glob, ok.blt, ok.above, ok.inj, ok.has, ok.cab, ok.hd, ok.frames, ok.stk, ok.exf, ok.bs, ok.bsz, ok.noex, ok.exfs, ok.funs, ok.frf⟩
theorem Cx.Ok.unwish {X : Cx} {E : Value → Shared → Prop} (ok : (X.wish E).Ok) : X.Ok :=
  ⟨ok.mod, ok.kind, ok.glob, ok.blt, ok.above, ok.inj, ok.has, ok.cab, ok.hd, ok.frames, ok.stk, ok.exf, ok.bs, ok.bsz, ok.noex, ok.exfs, ok.funs, ok.frf⟩
section
variable {X : Cx} {pins : List (Addr × Obj)} {σ : St} {H : Hp} {s : Shared} {E : Value → Shared → Prop}
theorem Inv.wish (I : Inv X pins σ H s) (E : Value → Shared → Prop) : Inv (X.wish E) pins σ H s := ⟨I.ok.wish E, I.os, I.bare, I.base, I.loc, I.cell, I.free, I.freeC, I.pin, I.hok, I.len⟩
theorem Inv.unwish (I : Inv (X.wish E) pins σ H s) : Inv X pins σ H s := ⟨I.ok.unwish, I.os, I.bare, I.base, I.loc, I.cell, I.free, I.freeC, I.pin, I.hok, I.len⟩
theorem SP.unwish {D : Ends} {f : Flow} {s' : Shared} (h : SP (X.wish E) pins D f s') : SP X pins D f s' := by
  cases f with
  | next => obtain ⟨σ', H', I, q⟩ := h; exact ⟨σ', H', I.unwish, q⟩
  | brk => obtain ⟨σ', H', I, q⟩ := h; exact ⟨σ', H', I.unwish, q⟩
  | cont => obtain ⟨σ', H', I, q⟩ := h; exact ⟨σ', H', I.unwish, q⟩
  | ret u => obtain ⟨v, σ', H', I, r, q⟩ := h; exact ⟨v, σ', H', I.unwish, r, q⟩
theorem PE.nox {e : Expr} {t : TE} (h : PE X.nox e t) : PE X e t := fun pins s σ H Q I hw =>
  wpAny_mono (h pins s σ H Q (I.wish _) hw) (fun _ _ ⟨v, H', I', r, q⟩ => ⟨v, H', I'.unwish, r, q⟩) fun _ _ z => False.elim z
theorem PT.nox {e : Expr} {t : TT} (h : PT X.nox e t) : PT X e t := fun pins s σ H Q I hw =>
  wpAny_mono (h pins s σ H Q (I.wish _) hw) (fun _ _ ⟨H', I', q⟩ => ⟨H', I'.unwish, q⟩) fun _ _ z => False.elim z
theorem PSs.nox {st : List Stmt} {t : TS} (h : PSs X.nox st t) : PSs X st t := fun pins s σ H D I hw =>
  wpAny_mono (h pins s σ H D (I.wish _) hw) (fun _ _ q => q.unwish) fun _ _ z => False.elim z
end
section
variable {X : Cx} {st : Stmt} {rest : List Stmt} {t u : TS} {e : Expr} {te : TE} {pos : Pos}
def tNext : TS := fun D σ H => D.nx σ H
def tSeq (t u : TS) : TS := fun D σ H => t { D with nx := u D } σ H
theorem pss_nil : PSs X [] tNext := fun _ _ σ H _ I h => wpAny_execs_nil ⟨σ, H, I, h⟩
theorem pss_cons (h1 : PS X st t) (h2 : PSs X rest u) : PSs X (st :: rest) (tSeq t u) := by
  intro pins s σ H D I h
  refine wpAny_execs_cons (thn (h1 pins s σ H { D with nx := u D } I h) fun f s1 q => ?_)
  cases f with
  | next =>
    obtain ⟨σ', H', I', q⟩ := q
    exact h2 pins s1 σ' H' D I' q
  | ret v => exact q
  | brk => exact q
  | cont => exact q
theorem pss_one (h1 : PS X st t) : PSs X [st] t := by
  intro pins s σ H D I h
  refine wpAny_execs_cons (thn (h1 pins s σ H D I h) fun f s1 q => ?_)
  cases f with
  | next => exact wpAny_execs_nil q
  | ret v => exact q
  | brk => exact q
  | cont => exact q
theorem Inv.quiet {pins : List (Addr × Obj)} {σ : St} {H : Hp} {s : Shared} (I : Inv X pins σ H s) : interactive X.env = false := by simp [interactive, I.ok.kind]
def tDrop (te : TE) : TS := fun D σ H => te σ H fun _ H1 => D.nx σ H1
theorem ps_expr (he : PE X e te) (hs : swapsWith e none pos.line X.env = pure false := by rfl) : PS X (.Expr e pos) (tDrop te) := by
  intro pins s σ H D I h
  exact wpAny_Expr_any (thn (he pins s σ H _ I h) fun v s1 ⟨x, H1, I1, r1, q1⟩ => ⟨σ, H1, I1, q1⟩) I.quiet hs
def tRet (te : TE) : TS := fun D σ H => te σ H D.rt
theorem ps_ret (he : PE X e te) : PS X (.Return (some e) pos) (tRet te) := by
  intro pins s σ H D I h
  exact wpAny_Return_some (thn (he pins s σ H _ I h) fun v s1 ⟨x, H1, I1, r1, q1⟩ => ⟨x, σ, H1, I1, r1, q1⟩)
def tIfS (c : TT) (t u : TS) : TS := fun D σ H => c σ H fun b H1 => if b = true then t D σ H1 else u D σ H1
theorem ps_if {c : Expr} {a b : List Stmt} {tc : TT} (hc : PT X c tc) (ha : PSs X a t) (hb : PSs X b u) : PS X (.If c a b pos) (tIfS tc t u) := by
  intro pins s σ H D I h
  refine wpAny_If (thn (hc pins s σ H _ I h) fun d s1 ⟨H1, I1, q1⟩ => ?_)
  cases d with
  | true => exact ha pins s1 σ H1 D I1 q1
  | false => exact hb pins s1 σ H1 D I1 q1
end
abbrev TG := V → St → Hp → (St → Hp → Prop) → Prop
abbrev TGs := List V → St → Hp → (St → Hp → Prop) → Prop
def PG (X : Cx) (target : Expr) (t : TG) : Prop :=
  ∀ (pins : List (Addr × Obj)) (s : Shared) (σ : St) (H : Hp) (v : V) (u : Value) (Q : St → Hp → Prop), Inv X pins σ H s → RelV v u → t v σ H Q →
    wpAny (model X.prog X.w) X.A (assign target X.env u) (fun _ s' => ∃ σ' H', Inv X pins σ' H' s' ∧ Q σ' H') X.xe s
def PGs (X : Cx) (ts : List Expr) (t : TGs) : Prop :=
  ∀ (pins : List (Addr × Obj)) (s : Shared) (σ : St) (H : Hp) (vs : List V) (us : List Value) (Q : St → Hp → Prop), Inv X pins σ H s → Vals vs us → t vs σ H Q →
    wpAny (model X.prog X.w) X.A (assignInOrder ((assignEach ts X.env).map (·.2)) us) (fun _ s' => ∃ σ' H', Inv X pins σ' H' s' ∧ Q σ' H') X.xe s
abbrev TSet := V → V → V → Hp → (Hp → Prop) → Prop
def PSet (X : Cx) (t : TSet) : Prop :=
  ∀ (pins : List (Addr × Obj)) (s : Shared) (σ : St) (H : Hp) (o i v : V) (ov iv u : Value) (Q : Hp → Prop), Inv X pins σ H s → RelV o ov → RelV i iv → RelV v u → t o i v H Q →
    wpAny (model X.prog X.w) X.A (setItem ov iv u) (fun _ s' => ∃ H', Inv X pins σ H' s' ∧ Q H') X.xe s
abbrev TIp := V → V → Hp → VK → Prop
def PIp (X : Cx) (op : Operator) (t : TIp) : Prop :=
  ∀ (pins : List (Addr × Obj)) (s : Shared) (σ : St) (H : Hp) (x y : V) (v u : Value) (Q : VK), Inv X pins σ H s → RelV x v → RelV y u → t x y H Q →
    wpAny (model X.prog X.w) X.A (inplaceOp op v u) (EP X pins σ Q) X.xe s
section
variable {X : Cx} {pos : Pos}
def gName (i : Nat) : TG := fun v σ H Q => Q (σ.set i (some v)) H
theorem pg_name {i : Nat} {x : Str} (hN : X.N.Nodup) (hi : X.N[i]? = some x) (hx : Loc X.env.scope x) (hf : X.fn x = true ∨ X.env.scope.names.lookup x = some .local := by first | exact .inl rfl | exact .inr rfl | assumption) : PG X (.Name x pos) (gName i) := by
  intro pins s σ H v u Q I r h
  exact wpAny_assign_Name (store_ok I hN hi hx r (fun s' I' => ⟨_, H, I', h⟩) hf)
def gNil : TGs := fun vs σ H Q => vs = [] ∧ Q σ H
def gCons (t : TG) (u : TGs) : TGs := fun vs σ H Q => ∃ v r, vs = v :: r ∧ t v σ H fun σ' H' => u r σ' H' Q
theorem pgs_nil : PGs X [] gNil := by
  intro pins s σ H vs us Q I r h
  obtain ⟨e, h⟩ := h
  subst e
  cases r
  exact assignInOrder_nil ⟨σ, H, I, h⟩
theorem pgs_cons {e : Expr} {es : List Expr} {t : TG} {u : TGs} (h1 : PG X e t) (h2 : PGs X es u)
    (hs : (assignEach (e :: es) X.env).map (·.2) = assign e X.env :: (assignEach es X.env).map (·.2) := by rfl) : PGs X (e :: es) (gCons t u) := by
  intro pins s σ H vs us Q I r h
  obtain ⟨v, vr, e1, h⟩ := h
  subst e1
  cases r with
  | cons r rr =>
    rw [hs]
    refine assignInOrder_cons (thn (h1 pins s σ H _ _ _ I r h) fun _ s1 ⟨σ1, H1, I1, q1⟩ => ?_)
    exact h2 pins s1 σ1 H1 _ _ Q I1 rr q1
def gTup (K : PySem.W.Frag) (n : Nat) (t : TGs) : TG := fun v σ H Q => ∃ a xs, v = .ref a ∧ SqT K H a xs ∧ xs.length = n ∧ t xs σ H Q
theorem pg_tup {es : List Expr} {k : Nat} {t : TGs} {n : Nat} (hc : X.calm = true) (h : PGs X es t)
    (hn : (assignEach es X.env).length = n := by rfl) (hst : (assignEach es X.env).findIdx? (·.1) = none := by rfl) : PG X (.Tuple es k pos) (gTup X.K n t) := by
  intro pins s σ H v u Q I r hw
  obtain ⟨a, xs, e1, hq, hl, hw⟩ := hw
  subst e1
  cases r
  obtain ⟨its, rv, ht, hz⟩ := I.tuple hq
  refine assign_Tuple_tuple (I.ok.hd hc) ht (by simp [hn, ← hl, rv.length]) hst fun h' hx => ?_
  have I1 : Inv X pins σ H { s with heap := h' } := I.kept (t' := s.toks) fun b o e => hx b o (Nat.ne_of_lt (Heap.lt_size e)) e
  exact h pins _ σ H xs _ Q I1 (by simpa using rv) hw
def gSub (to ti : TE) (t : TSet) : TG := fun v σ H Q => to σ H fun o H1 => ti σ H1 fun i H2 => t o i v H2 fun H3 => Q σ H3
theorem pg_sub {o i : Expr} {to ti : TE} {t : TSet} (ho : PE X o to) (hi : PE X i ti) (hs : PSet X t)
    (ha : ∀ v, assign (.Subscript o i pos) X.env v = (do
      let ov ← holding [v] (eval o X.env)
      let iv ← holding [v, ov] (eval i X.env)
      standAt pos
      holding [v, ov, iv] (setItem ov iv v)
      release [v, ov, iv] []) := by intro _; rfl) : PG X (.Subscript o i pos) (gSub to ti t) := by
  intro pins s σ H v u Q I r h
  rw [ha]
  refine wpAny_bind (wpAny_holding (thn (ho pins s σ H _ I h) fun ov s1 ⟨x, H1, I1, r1, q1⟩ => ?_))
  refine wpAny_bind (wpAny_holding (thn (hi pins s1 σ H1 _ I1 q1) fun iv s2 ⟨y, H2, I2, r2, q2⟩ => ?_))
  refine wpAny_bind (wpAny_standAt (wpAny_bind (wpAny_holding (thn (hs pins s2 σ H2 x y v ov iv u _ I2 r1 r2 r q2) fun _ s3 ⟨H3, I3, q3⟩ => ?_))))
  exact wpAny_release ⟨σ, H3, I3, q3⟩
def tAsg (te : TE) (g : TG) : TS := fun D σ H => te σ H fun x H1 => g x σ H1 D.nx
theorem ps_asg {tg e : Expr} {te : TE} {g : TG} (he : PE X e te) (hg : PG X tg g) (hs : swapsWithSole [tg] e pos.line X.env = pure false := by rfl) (hw : swappedStores [tg] e X.env = pure none := by rfl)
    (h1 : (assignEach [tg] X.env).map (·.2) = [assign tg X.env] := by rfl) : PS X (.Assign [tg] e pos) (tAsg te g) := by
  intro pins s σ H D I h
  refine wpAny_Assign_stores (thn (he pins s σ H _ I h) fun v s1 ⟨x, H1, I1, r1, q1⟩ => ?_) hs hw
  rw [h1]
  exact thn (hg pins s1 σ H1 x v _ I1 r1 q1) fun _ s2 q => q
theorem ps_set {i : Nat} {x : Str} {e : Expr} {te : TE} {pos' : Pos} (hN : X.N.Nodup) (hi : X.N[i]? = some x) (hx : Loc X.env.scope x) (he : PE X e te) (hs : swapsWith e (some (.Name x pos')) pos.line X.env = pure false := by rfl) (hf : X.fn x = true ∨ X.env.scope.names.lookup x = some .local := by first | exact .inl rfl | exact .inr rfl | assumption) :
    PS X (.Assign [.Name x pos'] e pos) (tAsg te (gName i)) := by
  intro pins s σ H D I h
  refine wpAny_Assign_Name (thn (he pins s σ H _ I h) fun v s1 ⟨y, H1, I1, r1, q1⟩ => ?_) hs
  exact store_ok I1 hN hi hx r1 (fun s2 I2 => ⟨_, H1, I2, q1⟩) hf
def tAug (i : Nat) (te : TE) (ti : TIp) : TS := fun D σ H => ∃ x, σ[i]? = some (some x) ∧ te σ H fun y H1 => ti x y H1 fun z H2 => D.nx (σ.set i (some z)) H2
theorem ps_aug {i : Nat} {x : Str} {e : Expr} {te : TE} {op : Operator} {ti : TIp} {pos' : Pos} (hN : X.N.Nodup) (hi : X.N[i]? = some x) (hx : Loc X.env.scope x) (he : PE X e te) (ho : PIp X op ti) (hf : X.fn x = true ∨ X.env.scope.names.lookup x = some .local := by first | exact .inl rfl | exact .inr rfl | assumption) :
    PS X (.AugAssign (.Name x pos') op e pos) (tAug i te ti) := by
  intro pins s σ H D I h
  obtain ⟨v, e1, h⟩ := h
  obtain ⟨m, hn, hl⟩ := I.loc
  have vis : Vis X.env.scope x := by rcases hx with k | k; exact .inl k; exact .inr (.inl k)
  obtain ⟨u, r, l⟩ := hl i x v hi e1 vis
  refine wpAny_AugAssign_Name ?_
  have go : wpAny (model X.prog X.w) X.A (eval e X.env) (fun w s₂ => wpAny (model X.prog X.w) X.A (inplaceOp op u w) (fun r s₃ => wpAny (model X.prog X.w) X.A (storeName X.env x r) (fun _ => SP X pins D .next) X.xe s₃) X.xe s₂) X.xe s := by
    refine thn (he pins s σ H _ I h) fun w s1 ⟨y, H1, I1, r1, q1⟩ => ?_
    refine thn (ho pins s1 σ H1 v y u w _ I1 r r1 q1) fun z s2 ⟨zv, H2, I2, r2, q2⟩ => ?_
    exact store_ok I2 hN hi hx r2 (fun s3 I3 => ⟨_, H2, I3, q2⟩) hf
  rcases l with ⟨hk, hm⟩ | ⟨hk, c, hc, hcell⟩
  · exact wpAny_loadName_local I.ok.kind hk hn hm go
  · rcases hk with hk | hk
    · exact wpAny_loadName_cell I.ok.kind hk hc hcell go
    · rcases hx with k | k
      · have : X.env.scope.names.lookup x = some .free := hk
        rw [k] at this; cases this
      · have : X.env.scope.names.lookup x = some .free := hk
        rw [k] at this; cases this
def ipI (f : Int → Int → Int) : TIp := fun x y H Q => ∃ i j, x = .int i ∧ y = .int j ∧ Q (.int (f i j)) H
theorem ip_add : PIp X .Add (ipI fun i j => i + j) := by
  intro pins s σ H x y v u Q I r1 r2 h
  obtain ⟨i, j, e1, e2, q⟩ := h
  subst e1; subst e2
  obtain ⟨t, rfl⟩ := r1
  obtain ⟨t', rfl⟩ := r2
  exact iadd_int ⟨.int _, H, I.tok _, ⟨_, rfl⟩, q⟩
end
section
variable {X : Cx} {pos : Pos}
def tWhile (c : TT) (tb : TS) : TS := fun D σ H => ∃ W : Nat → St → Hp → Prop, (∃ m, W m σ H) ∧ ∀ m σ H, W m σ H →
  c σ H fun b H1 => if b = true then ∃ N : St → Hp → Prop, (∀ σ' H', N σ' H' → ∃ m', m' < m ∧ W m' σ' H') ∧ tb { D with nx := N, ct := N, bk := D.nx } σ H1 else D.nx σ H1
theorem ps_while {c : Expr} {body : List Stmt} {tc : TT} {tb : TS} (hp : PassesOwn (model X.prog X.w) X.A X.env X.xe) (hc : PT X c tc) (hb : PSs X body tb) : PS X (.While c body [] pos) (tWhile tc tb) := by
  intro pins s σ H D I h
  obtain ⟨W, ⟨m0, w0⟩, turn⟩ := h
  refine wpAny_While (codeAny_whileLoop (fun n s' => ∃ σ' H', Inv X pins σ' H' s' ∧ W n σ' H') ?_ m0 ⟨σ, H, I, w0⟩)
  rintro n s1 ⟨σ1, H1, I1, w1⟩
  refine wpAny_passesOwn hp (thn (hc pins s1 σ1 H1 _ I1 (turn n σ1 H1 w1)) fun b s2 ⟨H2, I2, q2⟩ => ?_)
  cases b with
  | true =>
    obtain ⟨N, hN, q2⟩ := q2
    rw [if_pos rfl]
    refine wpAny_passesOwn hp (thn (hb pins s2 σ1 H2 _ I2 q2) fun f s3 q3 => ?_)
    cases f with
    | next =>
      obtain ⟨σ3, H3, I3, n3⟩ := q3
      obtain ⟨m', hm, w3⟩ := hN σ3 H3 n3
      exact ⟨m', hm, σ3, H3, I3, w3⟩
    | cont =>
      obtain ⟨σ3, H3, I3, n3⟩ := q3
      obtain ⟨m', hm, w3⟩ := hN σ3 H3 n3
      exact ⟨m', hm, σ3, H3, I3, w3⟩
    | brk => exact q3
    | ret v => exact q3
  | false =>
    rw [if_neg Bool.false_ne_true]
    exact wpAny_execs_nil ⟨σ1, H2, I2, q2⟩
end
structure It where
  go : Nat → Hp → Prop
  yld : Nat → Hp → V → Hp → Prop
  stop : Nat → Hp → Prop
def FpOk (X : Cx) (pins : List (Addr × Obj)) (H : Hp) (b : Addr) : Prop :=
  H b = none ∧ b ≠ X.env.locals ∧ b ∉ X.fs ∧ (b ∈ X.ex ∨ X.s₀.heap.objs.size ≤ b) ∧ (∀ x c, X.env.cells.lookup x = some c → c ≠ b) ∧ ∀ p ∈ X.pn ++ pins, p.1 ≠ b
theorem Inv.fpOk {X : Cx} {pins : List (Addr × Obj)} {σ : St} {H H' : Hp} {s : Shared} {b : Addr} (I : Inv X pins σ H s) (hb : s.heap.objs.size ≤ b) (hn : H' b = none) : FpOk X pins H' b := by
  refine ⟨hn, Nat.ne_of_gt (Nat.lt_of_lt_of_le I.lt hb), I.nofs hb, .inr (Nat.le_trans I.sz hb), fun x c e z => ?_, fun p hp z => ?_⟩
  · obtain ⟨v, q⟩ := I.cell x c e
    exact absurd (Nat.lt_of_lt_of_le q.lt (by rw [z]; exact hb)) (Nat.lt_irrefl _)
  · exact absurd (Nat.lt_of_lt_of_le (Heap.lt_size (I.pin p hp).1) (by rw [z]; exact hb)) (Nat.lt_irrefl _)
structure Turn (P : Program) (w : World) (K : PySem.W.Frag) (tg : Expr) (J : It) (fp : List Addr) (it : Addr) (tn : Nat → Heap → Prop) : Prop where
  mem : it ∈ fp
  obj : ∀ i h, tn i h → ∀ b ∈ fp, ∃ o, h.get? b = some o ∧ ∀ v, o.data ≠ .cell v
  keep : ∀ i h h', tn i h → (∀ b ∈ fp, ∀ o, h.get? b = some o → h'.get? b = some o) → tn i h'
  item : ∀ (X : Cx), X.prog = P → X.w = w → X.K = K → X.calm = true → ∀ (i : Nat) (pins : List (Addr × Obj)) (s : Shared) (σ : St) (H : Hp) (E : Value → Shared → Prop), Inv X pins σ H s → (∀ b ∈ fp, FpOk X pins H b) → tn i s.heap → J.go i H →
    wpAny (model P w) X.A (pyNext (.ref it)) (fun r s1 => ∃ u, r = some u ∧
      wpAny (model P w) X.A (letOwnedTupleGo tg (.ref it) u) (fun _ s2 => ∃ x H', Inv X pins σ H' s2 ∧ RelV x u ∧ J.yld i H x H' ∧ tn (i + 1) s2.heap ∧ ∀ b ∈ fp, H' b = none) E s1) E s
  done : ∀ (X : Cx), X.prog = P → X.w = w → X.K = K → X.calm = true → ∀ (i : Nat) (pins : List (Addr × Obj)) (s : Shared) (σ : St) (H : Hp) (E : Value → Shared → Prop), Inv X pins σ H s → (∀ b ∈ fp, FpOk X pins H b) → tn i s.heap → J.stop i H →
    wpAny (model P w) X.A (pyNext (.ref it)) (fun r s1 => r = none ∧ Inv X pins σ H s1) E s
  self : ∀ (A : Around) (i : Nat) (s : Shared) (Q : Value → Shared → Prop) (E : Value → Shared → Prop), tn i s.heap → Q (.ref it) s → wpAny (model P w) A (pyIter (.ref it)) Q E s
abbrev TI := St → Hp → (It → Hp → Prop) → Prop
def PIE (X : Cx) (pins : List (Addr × Obj)) (σ : St) (tg : Expr) (R : It → Hp → Prop) (itv : Value) (s2 : Shared) : Prop :=
  ∃ (it : Addr) (fp : List Addr) (tn : Nat → Heap → Prop) (J : It) (H' : Hp), itv = .ref it ∧ Inv X pins σ H' s2 ∧ Turn X.prog X.w X.K tg J fp it tn ∧ tn 0 s2.heap ∧ (∀ b ∈ fp, FpOk X pins H' b) ∧ R J H'
def PI (X : Cx) (tg iter : Expr) (wi : TI) : Prop :=
  ∀ (pins : List (Addr × Obj)) (s : Shared) (σ : St) (H : Hp) (R : It → Hp → Prop), Inv X pins σ H s → wi σ H R →
    wpAny (model X.prog X.w) X.A (eval iter X.env) (fun v s1 => wpAny (model X.prog X.w) X.A (pyIter v) (PIE X pins σ tg R) X.xe s1) X.xe s
theorem go_of {M : Model} {A : Around} {E : Value → Shared → Prop} {s : Shared} {tg : Expr} {it : Addr} {u : Value} {o : Obj} {n : String} {vs : Array Value} {Q : Unit → Shared → Prop} (ho : s.heap.get? it = some o) (hc : o.cls = .type n) (hd : o.data = .fields vs)
    (hn : ["enumerate", "zip", "dict_itemiterator", "dict_reverseitemiterator", "odict_iterator", "itertools.zip_longest", "itertools.pairwise"].contains n = false) (hQ : Q () s) : wpAny M A (letOwnedTupleGo tg (.ref it) u) Q E s := by
  unfold letOwnedTupleGo
  cases tg <;> first
    | exact wpAny_pure hQ
    | (cases u <;> first
        | exact wpAny_pure hQ
        | (refine wpAny_bind (wpAny_load ho ?_)
           rw [hc, hd]
           show wpAny M A (if (["enumerate", "zip", "dict_itemiterator", "dict_reverseitemiterator", "odict_iterator", "itertools.zip_longest", "itertools.pairwise"].contains n && vs[0]? == some (rawInt _)) = true then _ else _) Q E s
           rw [if_neg (by intro h; rw [hn, Bool.false_and] at h; cases h)]
           exact wpAny_pure hQ))
def Itl (K : PySem.W.Frag) (a : Addr) : It :=
  ⟨fun i H => ∃ xs x, SqL K H a xs ∧ xs[i]? = some x, fun i H x H' => H' = H ∧ ∀ xs, SqL K H a xs → xs[i]? = some x, fun i H => ∃ xs, SqL K H a xs ∧ xs.length ≤ i⟩
def Itt (K : PySem.W.Frag) (a : Addr) : It :=
  ⟨fun i H => ∃ xs x, SqT K H a xs ∧ xs[i]? = some x, fun i H x H' => H' = H ∧ ∀ xs, SqT K H a xs → xs[i]? = some x, fun i H => ∃ xs, SqT K H a xs ∧ xs.length ≤ i⟩
def Itr (lo : Int) (n : Nat) : It := ⟨fun i _ => i < n, fun i H x H' => H' = H ∧ x = .int (lo + i), fun i _ => n ≤ i⟩
theorem turn_list {P : Program} {w : World} {K : PySem.W.Frag} {tg : Expr} (a it : Addr) : Turn P w K tg (Itl K a) [it] it (fun i h => h.IsListIter it a i) where
  mem := by simp
  obj := fun i h st b hb => by
    have e : b = it := by simpa using hb
    subst e
    obtain ⟨o, e, c, d⟩ := st
    exact ⟨o, e, fun v z => by rw [d] at z; cases z⟩
  keep := fun i h h' st k => st.at fun o e => k it (by simp) o e
  item := by
    intro X hP hw hK hc i pins s σ H E I hf st hg
    subst hP hw hK
    obtain ⟨xs, x, hq, hx⟩ := hg
    obtain ⟨its, rv, p, hz⟩ := I.list hq
    obtain ⟨u, hu, ru⟩ := rv.get hx
    obtain ⟨f0, f1, f2, f3, f4, f5⟩ := hf it (by simp)
    refine wpAny_pyNext_list_item st p.isList (x := u) (by simpa using hu) fun h' st' sb => ?_
    have I1 : Inv X pins σ H { s with heap := h' } := I.turned (t' := s.toks) (fun b o hb e => (sb.2 b hb).trans e) f0 f1 f3 f4 f5
    obtain ⟨o, e, c, d⟩ := id st'
    exact ⟨u, rfl, go_of (s := { s with heap := h' }) e c d (by decide) ⟨x, H, I1, ru, ⟨rfl, fun ys hy => by rw [I.list_inj hy hq]; exact hx⟩, st', fun b hb => (hf b hb).1⟩⟩
  done := by
    intro X hP hw hK hc i pins s σ H E I hf st hg
    subst hP hw hK
    obtain ⟨xs, hq, hx⟩ := hg
    obtain ⟨its, rv, p, hz⟩ := I.list hq
    obtain ⟨f0, f1, f2, f3, f4, f5⟩ := hf it (by simp)
    have hl := rv.length
    exact wpAny_pyNext_list_end (I.ok.hd hc) st p.isList (by simp; omega) fun h' eb => ⟨rfl, I.turned (t' := s.toks) (fun b o hb e => eb b o hb e) f0 f1 f3 f4 f5⟩
  self := fun _ _ _ _ _ st h => wpAny_pyIter_listiter st h
theorem turn_tuple {P : Program} {w : World} {K : PySem.W.Frag} {tg : Expr} (a it : Addr) : Turn P w K tg (Itt K a) [it] it (fun i h => h.IsTupleIter it a i) where
  mem := by simp
  obj := fun i h st b hb => by
    have e : b = it := by simpa using hb
    subst e
    obtain ⟨o, e, c, d⟩ := st
    exact ⟨o, e, fun v z => by rw [d] at z; cases z⟩
  keep := fun i h h' st k => st.at fun o e => k it (by simp) o e
  item := by
    intro X hP hw hK hc i pins s σ H E I hf st hg
    subst hP hw hK
    obtain ⟨xs, x, hq, hx⟩ := hg
    obtain ⟨its, rv, p, hz⟩ := I.tuple hq
    obtain ⟨u, hu, ru⟩ := rv.get hx
    obtain ⟨f0, f1, f2, f3, f4, f5⟩ := hf it (by simp)
    refine wpAny_pyNext_tuple_item st (show s.heap.IsTuple a its.toArray from p) (x := u) (by simpa using hu) fun h' st' sb => ?_
    have I1 : Inv X pins σ H { s with heap := h' } := I.turned (t' := s.toks) (fun b o hb e => (sb.2 b hb).trans e) f0 f1 f3 f4 f5
    obtain ⟨o, e, c, d⟩ := id st'
    exact ⟨u, rfl, go_of (s := { s with heap := h' }) e c d (by decide) ⟨x, H, I1, ru, ⟨rfl, fun ys hy => by rw [I.tuple_inj hy hq]; exact hx⟩, st', fun b hb => (hf b hb).1⟩⟩
  done := by
    intro X hP hw hK hc i pins s σ H E I hf st hg
    subst hP hw hK
    obtain ⟨xs, hq, hx⟩ := hg
    obtain ⟨its, rv, p, hz⟩ := I.tuple hq
    obtain ⟨f0, f1, f2, f3, f4, f5⟩ := hf it (by simp)
    have hl := rv.length
    exact wpAny_pyNext_tuple_end (I.ok.hd hc) st (show s.heap.IsTuple a its.toArray from p) (by simp; omega) fun h' eb => ⟨rfl, I.turned (t' := s.toks) (fun b o hb e => eb b o hb e) f0 f1 f3 f4 f5⟩
  self := fun _ _ _ _ _ st h => wpAny_pyIter_tupleiter st h
theorem turn_range {P : Program} {w : World} {K : PySem.W.Frag} {tg : Expr} (it : Addr) (lo : Int) (n : Nat) : Turn P w K tg (Itr lo n) [it] it (fun i h => IsRangeIter h it (lo + (i : Nat) * 1) ((n : Int) - (i : Nat)) 1) where
  mem := by simp
  obj := fun i h st b hb => by
    have e : b = it := by simpa using hb
    subst e
    exact ⟨_, st, fun v z => by
      have z' : Data.fields _ = Data.cell v := z
      cases z'⟩
  keep := fun i h h' st k => k it (by simp) _ st
  item := by
    intro X hP hw hK hc i pins s σ H E I hf st hg
    subst hP hw hK
    obtain ⟨f0, f1, f2, f3, f4, f5⟩ := hf it (by simp)
    have W := Walks.range (prog := X.prog) (w := X.w) (I.ok.hd hc) it lo 1 n
    refine W.item i s _ _ hg st fun v h' tk hv st' kk => ?_
    obtain ⟨t, rfl⟩ := hv
    have I1 : Inv X pins σ H { s with heap := h', toks := tk } := I.turned (fun b o hb e => kk b o (by simpa using hb) e) f0 f1 f3 f4 f5
    refine ⟨_, rfl, go_of (s := { s with heap := h', toks := tk }) (n := "range_iterator") st' rfl rfl (by decide) ⟨.int (lo + i), H, I1, ⟨t, ?_⟩, ⟨rfl, rfl⟩, st', fun b hb => (hf b hb).1⟩⟩
    rw [Int.mul_one]
  done := by
    intro X hP hw hK hc i pins s σ H E I hf st hg
    subst hP hw hK
    obtain ⟨f0, f1, f2, f3, f4, f5⟩ := hf it (by simp)
    exact wpAny_pyNext_range_end (I.ok.hd hc) st (by have : n ≤ i := hg; omega) fun h' eb => ⟨rfl, I.turned (t' := s.toks) (fun b o hb e => eb b o hb e) f0 f1 f3 f4 f5⟩
  self := fun _ _ _ _ _ st h => wpAny_pyIter_rangeiter st h
end L2
namespace L2
open PySem PySem.Spec PyProof.Rows
section
variable {X : Cx} {tg : Expr}
def iList (K : PySem.W.Frag) (tl : TE) : TI := fun σ H R => tl σ H fun x H1 => ∃ a, x = .ref a ∧ (∃ xs, SqL K H1 a xs) ∧ R (Itl K a) H1
def iTup (K : PySem.W.Frag) (tl : TE) : TI := fun σ H R => tl σ H fun x H1 => ∃ a, x = .ref a ∧ (∃ xs, SqT K H1 a xs) ∧ R (Itt K a) H1
theorem pi_list {l : Expr} {tl : TE} (hl : PE X l tl) : PI X tg l (iList X.K tl) := by
  intro pins s σ H R I h
  refine thn (hl pins s σ H _ I h) fun v s1 ⟨x, H1, I1, r1, q1⟩ => ?_
  obtain ⟨a, e, ⟨xs, hq⟩, q⟩ := q1
  subst e
  cases r1
  obtain ⟨its, rv, p, hz⟩ := I1.list hq
  refine wpAny_pyIter_list p.isList ?_
  refine ⟨s1.heap.objs.size, [s1.heap.objs.size], _, _, H1, rfl, I1.kept (t' := s1.toks) fun b o e => Heap.get?_push_of_some _ e, turn_list a _, ⟨_, Heap.get?_push_size _ rfl, rfl, rfl⟩, fun b hb => ?_, q⟩
  have e : b = s1.heap.objs.size := by simpa using hb
  subst e
  exact I1.fpOk (Nat.le_refl _) (I1.hok.fresh (Nat.le_refl _))
theorem pi_tup {l : Expr} {tl : TE} (hl : PE X l tl) : PI X tg l (iTup X.K tl) := by
  intro pins s σ H R I h
  refine thn (hl pins s σ H _ I h) fun v s1 ⟨x, H1, I1, r1, q1⟩ => ?_
  obtain ⟨a, e, ⟨xs, hq⟩, q⟩ := q1
  subst e
  cases r1
  obtain ⟨its, rv, p, hz⟩ := I1.tuple hq
  refine wpAny_pyIter_tuple (show s1.heap.IsTuple a its.toArray from p) ?_
  refine ⟨s1.heap.objs.size, [s1.heap.objs.size], _, _, H1, rfl, I1.kept (t' := s1.toks) fun b o e => Heap.get?_push_of_some _ e, turn_tuple a _, ⟨_, Heap.get?_push_size _ rfl, rfl, rfl⟩, fun b hb => ?_, q⟩
  have e : b = s1.heap.objs.size := by simpa using hb
  subst e
  exact I1.fpOk (Nat.le_refl _) (I1.hok.fresh (Nat.le_refl _))
theorem range_it {pins : List (Addr × Obj)} {σ : St} {H : Hp} {s : Shared} {R : It → Hp → Prop} {E : Value → Shared → Prop} {lo hi : Int} {t u v : Tok} {tk : Nat} (I : Inv X pins σ H s) (h1 : -(2 ^ 62) ≤ lo) (h2 : lo < 2 ^ 62) (h3 : -(2 ^ 62) ≤ hi) (h4 : hi < 2 ^ 62)
    (q : R (Itr lo (hi - lo).toNat) H) : wpAny (model X.prog X.w) X.A (pyIter (.ref s.heap.objs.size)) (PIE X pins σ tg R) E { s with heap := s.heap.push { cls := .type "range", data := .fields #[.int lo t, .int hi u, .int 1 v] }, toks := tk } := by
  refine wpAny_pyIter_range (IsRange.new ..) (small_one h1 h2 h3 h4) ?_
  have I1 : Inv X pins σ H { s with heap := s.heap.push { cls := .type "range", data := .fields #[.int lo t, .int hi u, .int 1 v] }, toks := tk } := I.kept fun b o e => Heap.get?_push_of_some _ e
  refine ⟨(s.heap.push { cls := .type "range", data := .fields #[.int lo t, .int hi u, .int 1 v] }).objs.size, [(s.heap.push { cls := .type "range", data := .fields #[.int lo t, .int hi u, .int 1 v] }).objs.size], _, _, H, rfl,
    I1.kept (t' := tk) fun b o e => Heap.get?_push_of_some _ e, turn_range _ lo (hi - lo).toNat, ?_, fun b hb => ?_, q⟩
  · have e1 : lo + ((0 : Nat) : Int) * 1 = lo := by simp
    have e2 : (((hi - lo).toNat : Nat) : Int) - ((0 : Nat) : Int) = Builtin.Range.rangeSize lo hi 1 := by rw [rangeSize_one]; split <;> omega
    show IsRangeIter _ _ (lo + ((0 : Nat) : Int) * 1) ((((hi - lo).toNat : Nat) : Int) - ((0 : Nat) : Int)) 1
    rw [e1, e2]
    exact Heap.get?_push_size _ rfl
  · have e : b = (s.heap.push { cls := .type "range", data := .fields #[.int lo t, .int hi u, .int 1 v] }).objs.size := by simpa using hb
    subst e
    exact I1.fpOk (Nat.le_refl _) (I1.hok.fresh (Nat.le_refl _))
def iRng1 (ta : TA) : TI := fun σ H R => ta σ H fun vs H1 => ∃ j : Int, vs = [.int j] ∧ -(2 ^ 62) ≤ j ∧ j < 2 ^ 62 ∧ R (Itr 0 j.toNat) H1
theorem pi_range1 {a : Expr} {ta : TA} {p pos : Pos} (hg : Gl X "range") (hm : X.mg "range" = none) (ha : PA X [a] ta) (hs : starEach [a] X.env = [(false, eval a X.env)] := by rfl) : PI X tg (.Call (.Name "range" p) [a] [] pos) (iRng1 ta) := by
  intro pins s σ H R I h
  refine Call_ (ld_blt I hg hm boot_range (PyProof.Rows.callWith_type1 (thn (ha pos pins s σ H _ I h) fun us s1 ⟨vs, H1, I1, r1, q1⟩ => ?_) hs rfl))
  obtain ⟨j, e, q1, q2, q⟩ := q1
  subst e
  cases r1 with
  | cons r rr =>
    cases rr
    obtain ⟨t, rfl⟩ := r
    exact call_range_1 (range_it I1 (by omega) (by omega) q1 q2 (by simpa using q))
def tFor (wi : TI) (g : TG) (tb : TS) : TS := fun D σ H => wi σ H fun J H1 => ∃ W : Nat → Nat → St → Hp → Prop, (∃ m, W 0 m σ H1) ∧ ∀ i m σ H, W i m σ H →
  (J.stop i H ∧ D.nx σ H) ∨ (J.go i H ∧ ∃ N : St → Hp → Prop, (∀ σ' H', N σ' H' → ∃ m', m' < m ∧ W (i + 1) m' σ' H') ∧ ∀ x H', J.yld i H x H' → g x σ H' fun σ2 H2 => tb { D with nx := N, ct := N, bk := D.nx } σ2 H2)
def pinsAt (fp : List Addr) (h : Heap) : List (Addr × Obj) := fp.filterMap fun b => (h.get? b).map fun o => (b, o)
theorem mem_pinsAt {fp : List Addr} {h : Heap} {b : Addr} {o : Obj} (hb : b ∈ fp) (e : h.get? b = some o) : (b, o) ∈ pinsAt fp h := List.mem_filterMap.mpr ⟨b, hb, by rw [e]; rfl⟩
theorem of_pinsAt {fp : List Addr} {h : Heap} {p : Addr × Obj} (hp : p ∈ pinsAt fp h) : p.1 ∈ fp ∧ h.get? p.1 = some p.2 := by
  obtain ⟨b, hb, e⟩ := List.mem_filterMap.mp hp
  cases q : h.get? b with
  | none => rw [q] at e; cases e
  | some o =>
    rw [q] at e
    have e' : (b, o) = p := Option.some.inj e
    subst e'
    exact ⟨hb, q⟩
theorem Inv.pinned {pins : List (Addr × Obj)} {σ : St} {H : Hp} {s : Shared} {fp : List Addr} (I : Inv X pins σ H s) (hf : ∀ b ∈ fp, FpOk X pins H b) (ho : ∀ b ∈ fp, ∃ o, s.heap.get? b = some o ∧ ∀ v, o.data ≠ .cell v) : Inv X (pins ++ pinsAt fp s.heap) σ H s :=
  I.pins_of fun p hp => (List.mem_append.mp hp).elim (fun z => I.pin p (List.mem_append_right _ z)) fun z => by
    obtain ⟨hb, e⟩ := of_pinsAt z
    obtain ⟨f0, f1, f2, _⟩ := hf p.1 hb
    obtain ⟨o, e', d⟩ := ho p.1 hb
    rw [e] at e'; cases e'
    exact ⟨e, f0, f1, f2, d⟩
theorem Inv.unpinned {pins pl : List (Addr × Obj)} {σ : St} {H : Hp} {s : Shared} (I : Inv X (pins ++ pl) σ H s) : Inv X pins σ H s := I.pins_of fun p hp => I.pin p (List.mem_append_right _ (List.mem_append_left _ hp))
theorem ps_for {iter : Expr} {body : List Stmt} {wi : TI} {g : TG} {tb : TS} {pos : Pos} (hp : PassesOwn (model X.prog X.w) X.A X.env X.xe) (hc : X.calm = true) (hi : PI X tg iter wi) (hg : PG X tg g) (hb : PSs X body tb)
    (hs : ∀ x, foldedSetIterable iter X.env x = pure x := by intro _; rfl) : PS X (.For tg iter body [] pos) (tFor wi g tb) := by
  intro pins s σ H D I h
  refine wpAny_For (thn (hi pins s σ H _ I h) fun v s1 h1 => thn h1 fun itv s2 h2 => ?_) hs
  obtain ⟨it, fp, tn, J, H2, e, I2, T, st2, f2, W, ⟨m0, w0⟩, turn⟩ := h2
  subst e
  have stat : ∀ {H' : Hp}, (∀ b ∈ fp, H' b = none) → ∀ b ∈ fp, FpOk X pins H' b := fun hn b hb => ⟨hn b hb, (f2 b hb).2⟩
  refine codeAny_forLoop_any (fun n s' => ∃ i σ' H', Inv X pins σ' H' s' ∧ tn i s'.heap ∧ (∀ b ∈ fp, H' b = none) ∧ W i n σ' H') ?_ m0 ⟨0, σ, H2, I2, st2, fun b hb => (f2 b hb).1, w0⟩
  rintro n s3 ⟨i, σ3, H3, I3, st3, fr3, w3⟩
  rcases turn i n σ3 H3 w3 with ⟨stop, qn⟩ | ⟨go, N, hN, step⟩
  · refine wpAny_passesOwn hp (thn (T.done X rfl rfl rfl hc i pins s3 σ3 H3 X.xe I3 (stat fr3) st3 stop) fun r s4 ⟨hr, I4⟩ => ?_)
    subst hr
    exact wpAny_execs_nil ⟨σ3, H3, I4, qn⟩
  · refine wpAny_passesOwn hp (thn (T.item X rfl rfl rfl hc i pins s3 σ3 H3 X.xe I3 (stat fr3) st3 go) fun r s4 ⟨u, hr, h4⟩ => ?_)
    subst hr
    refine wpAny_passesOwn hp (thn h4 fun _ s5 ⟨x, H5, I5, r5, y5, st5, fr5⟩ => ?_)
    have I5' := I5.pinned (stat fr5) (T.obj _ _ st5)
    refine wpAny_passesOwn hp (thn (hg _ s5 σ3 H5 x u _ I5' r5 (step x H5 y5)) fun _ s6 ⟨σ6, H6, I6, q6⟩ => ?_)
    refine wpAny_passesOwn hp (thn (hb _ s6 σ6 H6 _ I6 q6) fun f s7 q7 => ?_)
    have again : ∀ {σ7 : St} {H7 : Hp}, Inv X (pins ++ pinsAt fp s5.heap) σ7 H7 s7 → N σ7 H7 → ∃ m, m < n ∧ ∃ i σ' H', Inv X pins σ' H' s7 ∧ tn i s7.heap ∧ (∀ b ∈ fp, H' b = none) ∧ W i m σ' H' := fun {σ7 H7} I7 n7 => by
      obtain ⟨m', hm, w7⟩ := hN σ7 H7 n7
      refine ⟨m', hm, i + 1, σ7, H7, I7.unpinned, T.keep _ _ _ st5 fun b hb o e => (I7.pin (b, o) (List.mem_append_right _ (List.mem_append_right _ (mem_pinsAt hb e)))).1, fun b hb => ?_, w7⟩
      obtain ⟨o, e, d⟩ := T.obj _ _ st5 b hb
      exact (I7.pin (b, o) (List.mem_append_right _ (List.mem_append_right _ (mem_pinsAt hb e)))).2.1
    cases f with
    | next => obtain ⟨σ7, H7, I7, n7⟩ := q7; exact again I7 n7
    | cont => obtain ⟨σ7, H7, I7, n7⟩ := q7; exact again I7 n7
    | brk => obtain ⟨σ7, H7, I7, q7⟩ := q7; exact ⟨σ7, H7, I7.unpinned, q7⟩
    | ret v => obtain ⟨x7, σ7, H7, I7, r7, q7⟩ := q7; exact ⟨x7, σ7, H7, I7.unpinned, r7, q7⟩
end
end L2
namespace L2
open PySem PySem.Spec PyProof.Rows
abbrev R2 := V → V → Hp → VK → Prop
def OpR (X : Cx) (f : Value → Value → Sem Value) (r : R2) : Prop :=
  ∀ (pins : List (Addr × Obj)) (s : Shared) (σ : St) (H : Hp) (x y : V) (v u : Value) (Q : VK), Inv X pins σ H s → RelV x v → RelV y u → r x y H Q →
    wpAny (model X.prog X.w) X.A (f v u) (EP X pins σ Q) X.xe s
def CallR (X : Cx) (f : Value) (r : List V → Hp → VK → Prop) : Prop :=
  ∀ (pins : List (Addr × Obj)) (s : Shared) (σ : St) (H : Hp) (xs : List V) (us : List Value) (Q : VK), Inv X pins σ H s → Vals xs us → r xs H Q →
    wpAny (model X.prog X.w) X.A (call f us) (EP X pins σ Q) X.xe s
def tOp (r : R2) (ta tb : TE) : TE := fun σ H Q => ta σ H fun x H1 => tb σ H1 fun y H2 => r x y H2 Q
def rI (C : Int → Int → Prop) (g : Int → Int → V) : R2 := fun x y H Q => ∃ i j, x = .int i ∧ y = .int j ∧ C i j ∧ Q (g i j) H
def rI0 (g : Int → Int → V) : R2 := fun x y H Q => ∃ i j, x = .int i ∧ y = .int j ∧ Q (g i j) H
section
variable {X : Cx} {a b c : Expr} {ta tb tc : TE} {pos : Pos}
theorem binT (ha : PE X a ta) (hb : PE X b tb) {pins : List (Addr × Obj)} {s : Shared} {σ : St} {H : Hp} {R : V → V → Hp → Prop} (I : Inv X pins σ H s)
    (h : ta σ H fun x H1 => tb σ H1 fun y H2 => R x y H2) {Q : Value → Shared → Prop} {f : Value → Value → Sem Value}
    (hf : ∀ v u s2 x y H2, Inv X pins σ H2 s2 → RelV x v → RelV y u → R x y H2 → wpAny (model X.prog X.w) X.A (f v u) Q X.xe s2) :
    wpAny (model X.prog X.w) X.A (eval a X.env) (fun v s₁ => wpAny (model X.prog X.w) X.A (eval b X.env) (fun u s₂ => wpAny (model X.prog X.w) X.A (f v u) Q X.xe s₂) X.xe s₁) X.xe s := by
  refine thn (ha pins s σ H _ I h) fun v s1 ⟨x, H1, I1, r1, q1⟩ => ?_
  refine thn (hb pins s1 σ H1 _ I1 q1) fun u s2 ⟨y, H2, I2, r2, q2⟩ => ?_
  exact hf v u s2 x y H2 I2 r1 r2 q2
theorem pe_op {op : Operator} {r : R2} (ho : OpR X (binaryOp op) r) (ha : PE X a ta) (hb : PE X b tb) : PE X (.BinOp a op b pos) (tOp r ta tb) := by
  intro pins s σ H Q I h
  exact wpAny_BinOp (binT ha hb I h fun v u s2 x y H2 I2 rx ry q => ho pins s2 σ H2 x y v u Q I2 rx ry q)
theorem opI {f : Value → Value → Sem Value} {C : Int → Int → Prop} {g : Int → Int → Int}
    (rule : ∀ (i j : Int) (t u : Tok) (s : Shared) (Q : Value → Shared → Prop) (E : Value → Shared → Prop), C i j → Q (.int (g i j) s.toks) { s with toks := s.toks + 1 } → wpAny (model X.prog X.w) X.A (f (.int i t) (.int j u)) Q E s) :
    OpR X f (rI C fun i j => .int (g i j)) := by
  intro pins s σ H x y v u Q I rx ry h
  obtain ⟨i, j, rfl, rfl, hc, q⟩ := h
  obtain ⟨t, rfl⟩ := rx
  obtain ⟨t', rfl⟩ := ry
  exact rule i j t t' s _ _ hc ⟨.int (g i j), H, I.tok _, ⟨_, rfl⟩, q⟩
theorem opI0 {f : Value → Value → Sem Value} {g : Int → Int → Int}
    (rule : ∀ (i j : Int) (t u : Tok) (s : Shared) (Q : Value → Shared → Prop) (E : Value → Shared → Prop), Q (.int (g i j) s.toks) { s with toks := s.toks + 1 } → wpAny (model X.prog X.w) X.A (f (.int i t) (.int j u)) Q E s) :
    OpR X f (rI0 fun i j => .int (g i j)) := by
  intro pins s σ H x y v u Q I rx ry h
  obtain ⟨i, j, rfl, rfl, q⟩ := h
  obtain ⟨t, rfl⟩ := rx
  obtain ⟨t', rfl⟩ := ry
  exact rule i j t t' s _ _ ⟨.int (g i j), H, I.tok _, ⟨_, rfl⟩, q⟩
theorem opB0 {f : Value → Value → Sem Value} {g : Int → Int → Bool}
    (rule : ∀ (i j : Int) (t u : Tok) (s : Shared) (Q : Value → Shared → Prop) (E : Value → Shared → Prop), Q (.bool (g i j)) s → wpAny (model X.prog X.w) X.A (f (.int i t) (.int j u)) Q E s) :
    OpR X f (rI0 fun i j => .bl (g i j)) := by
  intro pins s σ H x y v u Q I rx ry h
  obtain ⟨i, j, rfl, rfl, q⟩ := h
  obtain ⟨t, rfl⟩ := rx
  obtain ⟨t', rfl⟩ := ry
  exact rule i j t t' s _ _ ⟨.bl (g i j), H, I, rfl, q⟩
def CDiv (i j : Int) : Prop := 0 < j ∧ j < 1073741824
def CPow (i j : Int) : Prop := 0 ≤ j ∧ j ≤ 1000000 ∧ i.natAbs < 2 ^ 64
def CMul (i j : Int) : Prop := (-(2 ^ 64) < i ∧ i < 2 ^ 64) ∨ (-(2 ^ 64) < j ∧ j < 2 ^ 64)
theorem CMul.ok {i j : Int} (h : CMul i j) : IntMulOk i j := by
  rcases h with ⟨h1, h2⟩ | ⟨h1, h2⟩
  · exact .of_left (intBits_le_64 h1 h2)
  · exact .of_right (intBits_le_64 h1 h2)
theorem op_add : OpR X (binaryOp .Add) (rI0 fun i j => .int (i + j)) := opI0 fun _ _ _ _ _ _ _ q => add_int q
theorem op_sub : OpR X (binaryOp .Sub) (rI0 fun i j => .int (i - j)) := opI0 fun _ _ _ _ _ _ _ q => sub_int q
theorem op_mul : OpR X (binaryOp .Mult) (rI CMul fun i j => .int (i * j)) := opI fun _ _ _ _ _ _ _ hc q => mul_int q hc.ok
theorem op_fdiv : OpR X (binaryOp .FloorDiv) (rI CDiv fun i j => .int (i / j)) := opI fun i j _ _ _ _ _ hc q => by
  have h1 : (0 : Int) < j := hc.1
  have h2 : j < 1073741824 := hc.2
  exact floordiv_int (by omega) (by rw [Int.fdiv_eq_ediv_of_nonneg i (by omega)]; exact q) (.inl (PyProof.noPylong_small (by omega)))
theorem op_mod : OpR X (binaryOp .Mod) (rI (fun _ j => 0 < j) fun i j => .int (i % j)) := opI fun i j _ _ _ _ _ hc q => by
  have h1 : (0 : Int) < j := hc
  exact mod_int' (by omega) (by rw [Int.fmod_eq_emod_of_nonneg i (by omega)]; exact q)
theorem op_pow : OpR X (binaryOp .Pow) (rI CPow fun i j => .int (i ^ j.toNat)) := opI fun _ _ _ _ _ _ _ hc q => pow_int_small hc.1 hc.2.1 hc.2.2 q
end
def scal : V → V → Bool
  | .non, .non => true | .non, .int _ => true | .int _, .non => true | .non, .bl _ => true | .bl _, .non => true | .non, .str _ => true | .str _, .non => true
  | .int _, .int _ => true | .bl _, .bl _ => true | .str _, .str _ => true | .byt _, .byt _ => true
  | .int _, .str _ => true | .str _, .int _ => true | .bl _, .str _ => true | .str _, .bl _ => true
  | _, _ => false
def rEq : R2 := fun x y H Q => scal x y = true ∧ Q (.bl (decide (x = y))) H
def rNe : R2 := fun x y H Q => scal x y = true ∧ Q (.bl (!decide (x = y))) H
theorem dec_int {i j : Int} : decide (V.int i = V.int j) = (i == j) := by
  rw [Bool.eq_iff_iff]
  simp
theorem dec_bl {i j : Bool} : decide (V.bl i = V.bl j) = (i == j) := by
  rw [Bool.eq_iff_iff]
  simp
theorem dec_str {i j : Str} : decide (V.str i = V.str j) = (i == j) := by
  rw [Bool.eq_iff_iff]
  simp
theorem dec_byt {i j : Array UInt8} : decide (V.byt i = V.byt j) = (i.toList == j.toList) := by
  rw [Bool.eq_iff_iff]
  cases i
  cases j
  simp
section
variable {X : Cx} {a b c : Expr} {ta tb tc : TE} {pos : Pos}
theorem fin_bl {pins : List (Addr × Obj)} {σ : St} {H : Hp} {s : Shared} {Q : VK} {k k' : Bool} (I : Inv X pins σ H s) (q : Q (.bl k) H) (e : k = k') : EP X pins σ Q (.bool k') s := by
  subst e
  exact ⟨.bl k, H, I, rfl, q⟩
theorem op_eq : OpR X (compareOp .Eq) rEq := by
  intro pins s σ H x y v u Q I rx ry h
  obtain ⟨hs, q⟩ := h
  cases x with
  | non =>
    cases rx
    cases y with
    | non => cases ry; exact PySem.EqNone.eq_none_none (fin_bl I q (by simp))
    | bl j => cases ry; exact PySem.EqNone.eq_none_bool (fin_bl I q (by simp))
    | int j => obtain ⟨t', rfl⟩ := ry; exact PySem.EqNone.eq_none_int (fin_bl I q (by simp))
    | str j => obtain ⟨t', rfl⟩ := ry; exact PySem.EqNone.eq_none_str (fin_bl I q (by simp))
    | _ => exact absurd (show false = true from hs) Bool.false_ne_true
  | bl i =>
    cases rx
    cases y with
    | non => cases ry; exact PySem.EqNone.eq_bool_none (fin_bl I q (by simp))
    | bl j => cases ry; exact eq_bool (fin_bl I q dec_bl)
    | str j => obtain ⟨t', rfl⟩ := ry; exact PySem.EqMixed.eq_bool_str (fin_bl I q (by simp))
    | _ => exact absurd (show false = true from hs) Bool.false_ne_true
  | int i =>
    obtain ⟨t, rfl⟩ := rx
    cases y with
    | non => cases ry; exact PySem.EqNone.eq_int_none (fin_bl I q (by simp))
    | int j => obtain ⟨t', rfl⟩ := ry; exact eq_int (fin_bl I q dec_int)
    | str j => obtain ⟨t', rfl⟩ := ry; exact PySem.EqMixed.eq_int_str (fin_bl I q (by simp))
    | _ => exact absurd (show false = true from hs) Bool.false_ne_true
  | str i =>
    obtain ⟨t, rfl⟩ := rx
    cases y with
    | non => cases ry; exact PySem.EqNone.eq_str_none (fin_bl I q (by simp))
    | bl j => cases ry; exact PySem.EqMixed.eq_str_bool (fin_bl I q (by simp))
    | int j => obtain ⟨t', rfl⟩ := ry; exact PySem.EqMixed.eq_str_int (fin_bl I q (by simp))
    | str j => obtain ⟨t', rfl⟩ := ry; exact eq_str (fin_bl I q dec_str)
    | _ => exact absurd (show false = true from hs) Bool.false_ne_true
  | byt i =>
    obtain ⟨t, rfl⟩ := rx
    cases y with
    | byt j => obtain ⟨t', rfl⟩ := ry; exact PySem.W.eq_bytes (fin_bl I q dec_byt)
    | _ => exact absurd (show false = true from hs) Bool.false_ne_true
  | _ => cases y <;> exact absurd (show false = true from hs) Bool.false_ne_true
theorem op_ne : OpR X (compareOp .NotEq) rNe := by
  intro pins s σ H x y v u Q I rx ry h
  obtain ⟨hs, q⟩ := h
  cases x with
  | non =>
    cases rx
    cases y with
    | non => cases ry; exact PySem.EqNone.ne_none_none (fin_bl I q (by simp))
    | bl j => cases ry; exact PySem.EqNone.ne_none_bool (fin_bl I q (by simp))
    | int j => obtain ⟨t', rfl⟩ := ry; exact PySem.EqNone.ne_none_int (fin_bl I q (by simp))
    | str j => obtain ⟨t', rfl⟩ := ry; exact PySem.EqNone.ne_none_str (fin_bl I q (by simp))
    | _ => exact absurd (show false = true from hs) Bool.false_ne_true
  | bl i =>
    cases rx
    cases y with
    | non => cases ry; exact PySem.EqNone.ne_bool_none (fin_bl I q (by simp))
    | bl j => cases ry; exact ne_bool (fin_bl I q (congrArg not dec_bl))
    | str j => obtain ⟨t', rfl⟩ := ry; exact PySem.EqMixed.ne_bool_str (fin_bl I q (by simp))
    | _ => exact absurd (show false = true from hs) Bool.false_ne_true
  | int i =>
    obtain ⟨t, rfl⟩ := rx
    cases y with
    | non => cases ry; exact PySem.EqNone.ne_int_none (fin_bl I q (by simp))
    | int j => obtain ⟨t', rfl⟩ := ry; exact ne_int (fin_bl I q (congrArg not dec_int))
    | str j => obtain ⟨t', rfl⟩ := ry; exact PySem.EqMixed.ne_int_str (fin_bl I q (by simp))
    | _ => exact absurd (show false = true from hs) Bool.false_ne_true
  | str i =>
    obtain ⟨t, rfl⟩ := rx
    cases y with
    | non => cases ry; exact PySem.EqNone.ne_str_none (fin_bl I q (by simp))
    | bl j => cases ry; exact PySem.EqMixed.ne_str_bool (fin_bl I q (by simp))
    | int j => obtain ⟨t', rfl⟩ := ry; exact PySem.EqMixed.ne_str_int (fin_bl I q (by simp))
    | str j => obtain ⟨t', rfl⟩ := ry; exact ne_str (fin_bl I q (congrArg not dec_str))
    | _ => exact absurd (show false = true from hs) Bool.false_ne_true
  | byt i =>
    obtain ⟨t, rfl⟩ := rx
    cases y with
    | byt j => obtain ⟨t', rfl⟩ := ry; exact PySem.W.ne_bytes (fin_bl I q (congrArg not dec_byt))
    | _ => exact absurd (show false = true from hs) Bool.false_ne_true
  | _ => cases y <;> exact absurd (show false = true from hs) Bool.false_ne_true
theorem op_lt : OpR X (compareOp .Lt) (rI0 fun i j => .bl (decide (i < j))) := opB0 fun _ _ _ _ _ _ _ q => lt_int q
theorem op_gt : OpR X (compareOp .Gt) (rI0 fun i j => .bl (decide (j < i))) := opB0 fun _ _ _ _ _ _ _ q => gt_int q
theorem op_ge : OpR X (compareOp .GtE) (rI0 fun i j => .bl (decide (j ≤ i))) := opB0 fun _ _ _ _ _ _ _ q => ge_int q
theorem op_notN : OpR X (compareOp .IsNot) (fun x y H Q => y = .non ∧ Q (.bl (!decide (x = .non))) H) := by
  intro pins s σ H x y v u Q I rx ry h
  obtain ⟨rfl, q⟩ := h
  cases ry
  refine isnot_none_gen (fin_bl I q ?_)
  cases x <;> first
    | (cases rx; rfl)
    | (obtain ⟨t, rfl⟩ := rx; rfl)
theorem OpR.or {f : Value → Value → Sem Value} {r r' : R2} (h : OpR X f r) (h' : OpR X f r') : OpR X f (fun x y H Q => r x y H Q ∨ r' x y H Q) := by
  intro pins s σ H x y v u Q I rx ry q
  rcases q with q | q
  · exact h pins s σ H x y v u Q I rx ry q
  · exact h' pins s σ H x y v u Q I rx ry q
theorem nomark (b : Expr) {op : CmpOp} (h : op ≠ .In := by decide) (h2 : op ≠ .NotIn := by decide) : behindInMarks op b = false := by
  have e1 : (op == CmpOp.In) = false := by cases op <;> first | rfl | exact absurd rfl h
  have e2 : (op == CmpOp.NotIn) = false := by cases op <;> first | rfl | exact absurd rfl h2
  cases b <;> simp [behindInMarks, e1, e2]
theorem pe_cmpR {op : CmpOp} {r : R2} (ho : OpR X (compareOp op) r) (ha : PE X a ta) (hb : PE X b tb) (hm : behindInMarks op b = false) : PE X (.Compare a [op] [b] pos) (tOp r ta tb) := by
  intro pins s σ H Q I h
  exact wpAny_Compare1 (binT ha hb I h fun v u s2 x y H2 I2 rx ry q => ho pins s2 σ H2 x y v u Q I2 rx ry q) hm
def tTest (t : TE) : TT := fun σ H Q => t σ H fun x H' => ∃ k, x = .bl k ∧ Q k H'
theorem pt_cmpR {op : CmpOp} {r : R2} (ho : OpR X (compareOp op) r) (ha : PE X a ta) (hb : PE X b tb) (hm : behindInMarks op b = false) : PT X (.Compare a [op] [b] pos) (tTest (tOp r ta tb)) := by
  intro pins s σ H Q I h
  refine wpAny_isTrue_Compare1 (thn (ha pins s σ H _ I h) fun v s1 ⟨x, H1, I1, r1, q1⟩ => thn (hb pins s1 σ H1 _ I1 q1) fun u s2 ⟨y, H2, I2, r2, q2⟩ =>
    thn (ho pins s2 σ H2 x y v u _ I2 r1 r2 q2) fun c s3 ⟨z, H3, I3, r3, k, e, q3⟩ => ?_) hm
  subst e
  cases r3
  exact wpAny_truthy_bool ⟨H3, I3, q3⟩
theorem line63 : (sizeLine : Nat) < 2 ^ 63 := by rw [sizeLine_eq]; decide
theorem op_add_str : OpR X (binaryOp .Add) (fun x y H Q => ∃ i j, x = .str i ∧ y = .str j ∧ i.length + j.length ≤ sizeLine ∧ Q (.str (i ++ j)) H) := by
  intro pins s σ H x y v u Q I rx ry h
  obtain ⟨i, j, rfl, rfl, hz, q⟩ := h
  obtain ⟨t, rfl⟩ := rx
  obtain ⟨t', rfl⟩ := ry
  exact add_str (fun t' tk => ⟨.str (i ++ j), H, I.tok _, ⟨_, rfl⟩, q⟩) hz
theorem vals1 {x : V} {us : List Value} (r : Vals [x] us) : ∃ u, us = [u] ∧ RelV x u := by
  cases r with
  | cons r1 r2 => cases r2; exact ⟨_, rfl, r1⟩
theorem call_abs : CallR X (.builtin "abs") (fun xs H Q => ∃ i, xs = [.int i] ∧ Q (.int (if i < 0 then -i else i)) H) := by
  intro pins s σ H xs us Q I r h
  obtain ⟨i, rfl, q⟩ := h
  obtain ⟨u, rfl, t, rfl⟩ := vals1 r
  exact call_abs_int fun u tk => ⟨.int (if i < 0 then -i else i), H, I.tok _, ⟨_, rfl⟩, q⟩
end
end L2
namespace L2
open PySem PySem.Spec PyProof.Rows
section
variable {prog : Program} {w : World} {A : Around} {E : Value → Shared → Prop} {s : Shared} {K : PySem.W.Frag} {x dx C f : Addr} {mA : Str → Option Value} {name : Str} {v : Value}
end
theorem RelO.some_of {v : V} {o : Option Value} (r : RelO (some v) o) : ∃ u, o = some u ∧ RelV v u := by
  cases o with
  | none => exact (show False from r).elim
  | some u => exact ⟨u, rfl, r⟩
section
variable {P : Program} {w : World} {H H' : Hp} {h h' : Heap} {a C dx : Addr} {fs fs' : List (Str × V)}
end
structure Cls (K : PySem.W.Frag) (C : Addr) : Prop where
  pg : PySem.W.plainGet K C Str.empty = true
  hd : PySem.W.hasDictIn K C = true
  po : PySem.W.plainOver K C = true
  sa : PySem.W.findIn K (.ref C) "__setattr__" = some (some (.builtin "object.__setattr__"))
theorem Cls.get {K : PySem.W.Frag} {C : Addr} (c : Cls K C) (f : Str) : PySem.W.plainGet K C f = true := c.pg
section
variable {X : Cx} {pins : List (Addr × Obj)} {σ : St} {H : Hp} {s : Shared} {a C dx : Addr} {fs : List (Str × V)} {f : Str} {v : V} {A : Around} {E : Value → Shared → Prop}
end
section
variable {X : Cx} {o e value : Expr} {f : Str} {pos pos' tpos : Pos} {ta tv : TE}
end
section
variable {X : Cx} {pins : List (Addr × Obj)} {σ : St} {H : Hp} {s : Shared} {A : Around} {E : Value → Shared → Prop} {Q : Value → Shared → Prop} {c : Value} {b : Bool}
end
end L2
namespace L2
open PySem PySem.Spec PyProof.Rows
structure Room (k : Nat) (A : Around) : Prop where
  hd : A.handled = none
  dp : A.depth + 3 * k + 5 < recursionLimit
  un : A.units + 16 * k + 200 < cLine
  gd : A.guards = some []
theorem Room.mono {j k : Nat} {A : Around} (r : Room k A) (h : j ≤ k) : Room j A := ⟨r.hd, by have := r.dp; omega, by have := r.un; omega, r.gd⟩
theorem Room.deeper {k : Nat} {A : Around} (r : Room (k + 1) A) (env : Env) : Room k (A.deeper env) :=
  ⟨r.hd, by have := r.dp; show A.depth + 1 + 3 * k + 5 < _; omega, by have := r.un; show A.units + 3 + 16 * k + 200 < _; omega, r.gd⟩
theorem Room.in1 {k : Nat} {A : Around} (r : Room (k + 1) A) : Room k A.in1 :=
  ⟨r.hd, by have := r.dp; show A.depth + 3 * k + 5 < _; omega, by have := r.un; show A.units + 1 + 16 * k + 200 < _; omega, r.gd⟩
theorem Room.depth {k : Nat} {A : Around} (r : Room k A) : A.depth < recursionLimit := by have := r.dp; omega
theorem Room.units {k : Nat} {A : Around} (r : Room k A) : A.units + 64 < cLine := by have := r.un; omega
def tNil : TA := fun _ H Q => Q [] H
def tCons (ta : TE) (tr : TA) : TA := fun σ H Q => ta σ H fun x H1 => tr σ H1 fun xs H2 => Q (x :: xs) H2
section
variable {X : Cx} {e : Expr} {es : List Expr} {te : TE} {t : TA} {pos : Pos}
theorem pa_nil : PA X [] tNil := fun _ _ _ _ H Q I h => Calls.spliced_nil ⟨[], H, I, .nil, h⟩
theorem pa_cons (ha : PE X e te) (hr : PA X es t) (hs : starEach (e :: es) X.env = (false, eval e X.env) :: starEach es X.env := by rfl) : PA X (e :: es) (tCons te t) := by
  intro pos pins s σ H Q I h
  rw [hs]
  show wpAny _ _ (spliced ((false, eval e X.env) :: backTo pos (starEach es X.env))) _ _ s
  refine Calls.spliced_cons (thn (ha pins s σ H _ I h) fun u s1 ⟨x, H1, I1, r1, q1⟩ => ?_)
  exact thn (hr pos pins s1 σ H1 _ I1 q1) fun us s2 ⟨xs, H2, I2, r2, q2⟩ => ⟨x :: xs, H2, I2, .cons r1 r2, q2⟩
def tTup (t : TA) : TE := fun σ H Q => t σ H fun xs H1 => xs.length ≤ sizeLine ∧ ∀ p, H1 p = none → Q (.ref p) (upd H1 p (.tup xs))
def tLst (t : TA) : TE := fun σ H Q => t σ H fun xs H1 => xs.length ≤ sizeLine ∧ ∀ p, H1 p = none → Q (.ref p) (upd H1 p (.lst xs))
theorem pe_tup {x1} (h : PA X es t) : PE X (.Tuple es x1 pos) (tTup t) := by
  intro pins s σ H Q I hq
  refine wpAny_Tuple_spliced (thn (h pos pins s σ H _ I hq) fun us s1 ⟨xs, H1, I1, r, z, q⟩ => ⟨by rw [← r.length]; exact z, ?_⟩)
  have hf : H1 s1.heap.objs.size = none := I1.hok.fresh (Nat.le_refl _)
  refine ⟨.ref s1.heap.objs.size, upd H1 s1.heap.objs.size (.tup xs), I1.laid (t' := s1.toks) (fun b u e => Heap.get?_push_of_some _ e) (Nat.le_refl _) ?_, rfl, q _ hf⟩
  exact ⟨z, us, r, ⟨_, Heap.get?_push_size _ rfl, rfl, _, rfl⟩⟩
theorem pe_lst (h : PA X es t) : PE X (.List es pos) (tLst t) := by
  intro pins s σ H Q I hq
  refine wpAny_List_spliced (thn (h pos pins s σ H _ I hq) fun us s1 ⟨xs, H1, I1, r, z, q⟩ => ⟨by rw [← r.length]; exact z, ?_⟩)
  have hf : H1 s1.heap.objs.size = none := I1.hok.fresh (Nat.le_refl _)
  refine ⟨.ref s1.heap.objs.size, upd H1 s1.heap.objs.size (.lst xs), I1.laid (t' := s1.toks) (fun b u e => Heap.get?_push_of_some _ e) (Nat.le_refl _) ?_, rfl, q _ hf⟩
  exact ⟨z, us, 0, r, Heap.get?_push_size _ rfl⟩
end
abbrev Sp := List V → Hp → VK → XK → Prop
abbrev CXT := List Env → Hp → Shared → XK → Value → Shared → Prop
structure Env0 (P : Program) (w : World) (K : PySem.W.Frag) (mg : Str → Option Value) (base : Heap) (A : Around) (outer : List Env) (s : Shared) (H : Hp) : Prop where
  frames : A.frames = some outer
  mod : Mod K mg base
  bs : ∀ b o, base.get? b = some o → s.heap.get? b = some o ∧ H b = none
  bsz : base.objs.size ≤ s.heap.objs.size
  funs : s.heap.FunFrames base outer
  frf : ∀ b ∈ frs outer, H b = none
  hok : HOk P w H s.heap
  bare : AllBare s.gens
def CE (outer : List Env) (P : Program) (w : World) (H : Hp) (s : Shared) (Q : VK) (u : Value) (s' : Shared) : Prop :=
  ∃ v H', s'.os = s.os ∧ AllBare s'.gens ∧ Un (frs outer) [] H H' s.heap s'.heap ∧ HOk P w H' s'.heap ∧ RelV v u ∧ Q v H'
def CR (CX : CXT) (outer : List Env) (P : Program) (w : World) (H : Hp) (s : Shared) (Q : VK) (E : XK) (r : Result) (s' : Shared) : Prop :=
  match r with
  | .ok (.ret u) => CE outer P w H s Q u s'
  | .ok _ => False
  | .error e => CX outer H s E e s'
structure FnOk (P : Program) (w : World) (K : PySem.W.Frag) (mg : Str → Option Value) (base : Heap) (CX : CXT) (k : Nat) (f : Addr) (fd : FuncData) (ps : List Str) (sp : Sp) : Prop where
  len : ∀ vs H Q E, sp vs H Q E → vs.length = ps.length
  run : ∀ (A : Around) (outer : List Env) (s : Shared) (H : Hp) (args : Args) (us : List Value) (vs : List V) (Q : VK) (E : XK), Room k A → Env0 P w K mg base A outer s H → BindsTo s fd args (ps.zip us) → Vals vs us → sp vs H Q E →
    codeAny (model P w) A (.call (.ref f) args) (CR CX outer P w H s Q E) s
theorem FnOk.mono {P : Program} {w : World} {K : PySem.W.Frag} {mg : Str → Option Value} {base : Heap} {CX : CXT} {j k : Nat} {f : Addr} {fd : FuncData} {ps : List Str} {sp : Sp} (F : FnOk P w K mg base CX j f fd ps sp) (h : j ≤ k) :
    FnOk P w K mg base CX k f fd ps sp := ⟨F.len, fun A outer s H args us vs Q E hr => F.run A outer s H args us vs Q E (hr.mono h)⟩
theorem FnOk.imp {P : Program} {w : World} {K : PySem.W.Frag} {mg : Str → Option Value} {base : Heap} {CX : CXT} {k : Nat} {f : Addr} {fd : FuncData} {ps : List Str} {sp sp' : Sp} (F : FnOk P w K mg base CX k f fd ps sp)
    (h : ∀ vs H Q E, sp' vs H Q E → sp vs H Q E) : FnOk P w K mg base CX k f fd ps sp' :=
  ⟨fun vs H Q E q => F.len vs H Q E (h _ _ _ _ q), fun A outer s H args us vs Q E hr he hb hv hs => F.run A outer s H args us vs Q E hr he hb hv (h _ _ _ _ hs)⟩
theorem Env0.in1 {P : Program} {w : World} {K : PySem.W.Frag} {mg : Str → Option Value} {base : Heap} {A : Around} {outer : List Env} {s : Shared} {H : Hp} (e : Env0 P w K mg base A outer s H) :
    Env0 P w K mg base A.in1 outer s H := ⟨e.frames, e.mod, e.bs, e.bsz, e.funs, e.frf, e.hok, e.bare⟩
section
variable {X : Cx} {pins : List (Addr × Obj)} {σ : St} {H : Hp} {s s' : Shared}
theorem Inv.env0 (I : Inv X pins σ H s) : Env0 X.prog X.w X.K X.mg X.base X.A X.stack s H :=
  ⟨I.ok.frames, I.ok.mod, I.bs, Nat.le_trans I.ok.bsz I.sz, I.stack, I.stkFree, I.hok, I.bare⟩
theorem Inv.after {Q : VK} {u : Value} (I : Inv X pins σ H s) (h : CE X.stack X.prog X.w H s Q u s') : EP X pins σ Q u s' := by
  obtain ⟨v, H', os, bare, un, hok, r, q⟩ := h
  obtain ⟨hh, g, d, t, os'⟩ := s'
  obtain rfl : os' = s.os := os
  exact ⟨v, H', I.call (h' := hh) (g' := g) (d' := d) (t' := t) (ch := []) un hok bare (fun b z => absurd z (by simp)), r, q⟩
end
def tCall (sp : Sp) (dvs : List V) (E : XK) (t : TA) : TE := fun σ H Q => t σ H fun vs H1 => sp (vs ++ dvs) H1 Q E
def Binds (K : PySem.W.Frag) (fd : FuncData) (ps : List Str) (ds : List Value) : Prop :=
  ∀ (s : Shared) (us : List Value), K.In s.heap → (us ++ ds).length = ps.length → BindsTo s fd ⟨us, []⟩ (ps.zip (us ++ ds))
theorem Binds.all {K : PySem.W.Frag} {fd : FuncData} {ps : List Str} (h : ∀ us : List Value, us.length = ps.length → bindArgs fd ⟨us, []⟩ = pure (ps.zip us)) : Binds K fd ps [] := fun s us _ hl => by
  rw [List.append_nil] at hl ⊢
  exact .of_eq (h us hl)
def Passes (CX : CXT) (X : Cx) (E : XK) : Prop := ∀ (pins : List (Addr × Obj)) (σ : St) (H : Hp) (s : Shared) (e : Value) (s' : Shared), Inv X pins σ H s → CX X.stack H s E e s' → X.xe e s'
section
variable {X : Cx} {CX : CXT} {k : Nat} {f C : Addr} {fd : FuncData} {ps : List Str} {sp : Sp} {dvs : List V} {ds : List Value} {E : XK} {x m : Str} {p pos apos : Pos} {e o : Expr} {es : List Expr} {ta : TE} {t : TA}
theorem run_fn {pins : List (Addr × Obj)} {σ : St} {H : Hp} {s : Shared} {Q : VK} {us : List Value} {vs : List V} (F : FnOk X.prog X.w X.K X.mg X.base CX k f fd ps sp) (hr : Room k X.A) (hb : Binds X.K fd ps ds) (hd : Vals dvs ds) (hx : Passes CX X E)
    (I : Inv X pins σ H s) (r : Vals vs us) (h : sp (vs ++ dvs) H Q E) : wpAny (model X.prog X.w) X.A (call (.ref f) us) (EP X pins σ Q) X.xe s := by
  have r2 : Vals (vs ++ dvs) (us ++ ds) := r.append hd
  have hl : (us ++ ds).length = ps.length := by rw [← r2.length]; exact F.len _ _ _ _ h
  refine wpAny_call (codeAny_mono (F.run X.A X.stack s H ⟨us, []⟩ (us ++ ds) (vs ++ dvs) Q E hr I.env0 (hb s us I.kIn hl) r2 h) fun r s' hq => ?_)
  cases r with
  | error e => exact hx pins σ H s e s' I hq
  | ok fl =>
    cases fl with
    | ret u => exact I.after hq
    | next => exact False.elim hq
    | brk => exact False.elim hq
    | cont => exact False.elim hq
theorem pe_call (F : FnOk X.prog X.w X.K X.mg X.base CX k f fd ps sp) (hr : Room k X.A) (hg : Gl X x) (hm : X.mg x = some (.ref f)) (hk : PySem.W.keepIn X.K (.ref f) = true) (hb : Binds X.K fd ps ds) (hd : Vals dvs ds) (hx : Passes CX X E)
    (ha : PA X (e :: es) t) (hdb : (x == ("__debug__" : Str)) = false := by decide) (he : starEach (e :: es) X.env = (false, eval e X.env) :: starEach es X.env := by rfl) (hpl : (backTo pos (starEach es X.env)).any (·.1) = false := by rfl) :
    PE X (.Call (.Name x p) (e :: es) [] pos) (tCall sp dvs E t) := by
  intro pins s σ H Q I h
  refine wpAny_Call_Name_kw (ld_glob I hg hm ?_ hdb)
  refine PySem.W.callWith_K (h₀ := X.base) I.ok.mod.kin hk (thn (ha pos pins s σ H _ I h) fun us s1 ⟨vs, H1, I1, r, q⟩ => ⟨I1.kIn, ?_⟩) he hpl
  exact run_fn F hr hb hd hx I1 r q
end
section
variable {X : Cx} {CX : CXT} {k : Nat} {f C : Addr} {fd : FuncData} {ps ks : List Str} {sp : Sp} {E : XK} {x m : Str} {p pos apos kpos : Pos} {e o : Expr} {es : List Expr} {kws : List Keyword} {te ta : TE} {t tk : TA} {nm : Option Str}
variable {g : List Value → List Value → List Value} {gV : List V → List V → List V}
end
structure FnScope (N P : List Str) (sc : Scope) : Prop where
  kind : sc.kind = .function
  co : sc.isCoroutine = false
  gen : sc.isGenerator = false
  nd : N.Nodup
  pre : N.take P.length = P
  par : ∀ x ∈ P, sc.names.lookup x = some .local ∨ sc.names.lookup x = some .cell
  nofree : ∀ y ∈ sc.names, y.2 ≠ .free
theorem bindL_out {kindOf : Str → Option NameKind} {x : Str} : ∀ {binds : List (Str × Value)} {m : Str → Option Value}, (∀ v, (x, v) ∉ binds) → bindL kindOf binds m x = m x
  | [], _, _ => rfl
  | (n, v) :: r, m, h => by
    unfold bindL
    rw [bindL_out fun w hw => h w (List.mem_cons_of_mem _ hw)]
    split
    · have : x ≠ n := by rintro rfl; exact h v List.mem_cons_self
      simp [this]
    · rfl
theorem bindC_out {kindOf : Str → Option NameKind} {x : Str} : ∀ {binds : List (Str × Value)} {m : Str → Option Value}, (∀ v, (x, v) ∉ binds) → bindC kindOf binds m x = m x
  | [], _, _ => rfl
  | (n, v) :: r, m, h => by
    unfold bindC
    rw [bindC_out fun w hw => h w (List.mem_cons_of_mem _ hw)]
    split
    · rfl
    · have : x ≠ n := by rintro rfl; exact h v List.mem_cons_self
      simp [this]
theorem bindL_get {kindOf : Str → Option NameKind} {x : Str} {v : Value} : ∀ {P : List Str} {vs : List Value} {i : Nat} {m : Str → Option Value}, P.Nodup → P[i]? = some x → vs[i]? = some v → kindOf x = some .local →
    bindL kindOf (P.zip vs) m x = some v
  | [], _, _, _, _, h, _, _ => by simp at h
  | _ :: _, [], _, _, _, _, h, _ => by simp at h
  | p :: P, w :: vs, 0, m, nd, h1, h2, hk => by
    simp at h1 h2; subst h1; subst h2
    show bindL kindOf ((p, w) :: P.zip vs) m p = _
    unfold bindL
    rw [bindL_out fun v hv => (List.nodup_cons.mp nd).1 (List.of_mem_zip hv).1, if_pos hk]
    simp
  | p :: P, w :: vs, i + 1, m, nd, h1, h2, hk => by
    show bindL kindOf ((p, w) :: P.zip vs) m x = _
    unfold bindL
    exact bindL_get (i := i) (List.nodup_cons.mp nd).2 (by simpa using h1) (by simpa using h2) hk
theorem bindC_get {kindOf : Str → Option NameKind} {x : Str} {v : Value} : ∀ {P : List Str} {vs : List Value} {i : Nat} {m : Str → Option Value}, P.Nodup → P[i]? = some x → vs[i]? = some v → kindOf x ≠ some .local →
    bindC kindOf (P.zip vs) m x = some v
  | [], _, _, _, _, h, _, _ => by simp at h
  | _ :: _, [], _, _, _, _, h, _ => by simp at h
  | p :: P, w :: vs, 0, m, nd, h1, h2, hk => by
    simp at h1 h2; subst h1; subst h2
    show bindC kindOf ((p, w) :: P.zip vs) m p = _
    unfold bindC
    rw [bindC_out fun v hv => (List.nodup_cons.mp nd).1 (List.of_mem_zip hv).1, if_neg hk]
    simp
  | p :: P, w :: vs, i + 1, m, nd, h1, h2, hk => by
    show bindC kindOf ((p, w) :: P.zip vs) m x = _
    unfold bindC
    exact bindC_get (i := i) (List.nodup_cons.mp nd).2 (by simpa using h1) (by simpa using h2) hk
def start (N : List Str) (vs : List V) : St := vs.map some ++ List.replicate (N.length - vs.length) none
def cxOf (CX : CXT) (P : Program) (w : World) (K : PySem.W.Frag) (mg : Str → Option Value) (base : Heap) (N : List Str) (qual : Str) (scope : Scope) (f : Addr) (cd : Value) (A : Around) (outer : List Env) (s : Shared) (H : Hp) (E : XK) : Cx where
  prog := P
  w := w
  K := K
  mg := mg
  base := base
  A := A.deeper (envOfC qual scope s.heap.objs.size f cd)
  N := N
  s₀ := s
  H₀ := H
  env := envOfC qual scope s.heap.objs.size f cd
  outer := outer
  stack := envOfC qual scope s.heap.objs.size f cd :: outer
  ex := []
  calm := true
  fn := fun _ => true
  pn := []
  xe := fun e s' => wpAny (model P w) (A.deeper (envOfC qual scope s.heap.objs.size f cd)) (leaving (envOfC qual scope s.heap.objs.size f cd) e) (fun _ s'' => CX outer H s E e s'') (fun e' s'' => CX outer H s E e' s'') s'
theorem cell_has {sc : Scope} {n : Nat} {x : Str} (h : sc.names.lookup x = some .cell) : ∃ c, (cellsFrom n sc.names []).lookup x = some c := by
  have q := PySem.W.cellsFrom_some sc.names n [] (.inl h)
  exact Option.isSome_iff_exists.mp q
theorem inv_start {CX : CXT} {P : Program} {w : World} {K : PySem.W.Frag} {mg : Str → Option Value} {base : Heap} {N ps : List Str} {qual : Str} {scope : Scope} {f : Addr} {cd : Value} {A : Around} {outer : List Env} {s s1 : Shared} {H : Hp} {E : XK} {us : List Value} {vs : List V}
    (S : FnScope N ps scope) (hd : A.handled = none) (e0 : Env0 P w K mg base A outer s H) (hl : vs.length = ps.length) (r : Vals vs us)
    (x : InCallC s s.heap.objs.size (bindL (envOfC qual scope s.heap.objs.size f cd).kindOf (ps.zip us) fun _ => none) (cellsFrom (s.heap.objs.size + 1) scope.names []) (bindC (envOfC qual scope s.heap.objs.size f cd).kindOf (ps.zip us) fun _ => none) s1) :
    Inv (cxOf CX P w K mg base N qual scope f cd A outer s H E) [] (start N vs) H s1 := by
  have hpl : ps.length ≤ N.length := by have := congrArg List.length S.pre; rw [List.length_take] at this; omega
  obtain ⟨h1, tk, rfl, hk⟩ := x.done
  have noA : ∀ b : Addr, b ∉ (cxOf CX P w K mg base N qual scope f cd A outer s H E).ex := fun b z => absurd (show b ∈ ([] : List Addr) from z) (by simp)
  refine ⟨⟨e0.mod, S.kind, rfl, rfl, Nat.le_refl _, fun y z c h1 h2 => ?_, fun y hy => ?_, fun y c _ h => ?_, fun _ => hd, Around.frames_deeper e0.frames, .inr ⟨rfl, rfl⟩, fun b z => absurd z (noA b), e0.bs, e0.bsz, fun b _ _ => noA b, fun b z => absurd z (noA b), e0.funs, e0.frf⟩,
    rfl, e0.bare, Un.kept hk, ⟨_, x.toInCall.ns, fun i y v h1 h2 h3 => ?_⟩, fun y c h => ⟨_, x.cell y c h⟩, e0.hok.fresh (Nat.le_refl _), fun y c h => ?_, fun p hp => absurd (show p ∈ ([] : List (Addr × Obj)) from hp) (by simp), e0.hok.kept hk, ?_⟩
  · exact name_of_addr x.apart (PySem.mem_of_lookup h1) (PySem.mem_of_lookup h2)
  · have hy : scope.names.lookup y = some .cell ∨ scope.names.lookup y = some .free := hy
    rcases hy with hy | hy
    · exact cell_has hy
    · exact absurd rfl (S.nofree _ (PySem.mem_of_lookup hy))
  · exact Nat.le_of_lt (x.above y c (PySem.mem_of_lookup h))
  · have hi : i < vs.length := by
      unfold start at h2
      by_cases hi : i < vs.length
      · exact hi
      · rw [List.getElem?_append_right (by simpa using hi)] at h2
        rw [List.getElem?_replicate] at h2
        split at h2 <;> cases h2
    have ha : vs[i]? = some v := by
      unfold start at h2
      rw [List.getElem?_append_left (by simpa using hi), List.getElem?_map] at h2
      cases e : vs[i]? with
      | none => rw [e] at h2; cases h2
      | some a => rw [e] at h2; cases h2; rfl
    obtain ⟨u, hu, rv⟩ := r.get ha
    have hp : ps[i]? = some y := by
      rw [← S.pre, List.getElem?_take_of_lt (by omega)]; exact h1
    have ndP : ps.Nodup := by rw [← S.pre]; exact S.nd.sublist (List.take_sublist _ _)
    refine ⟨u, rv, ?_⟩
    rcases S.par y (List.mem_of_getElem? hp) with k | k
    · exact .inl ⟨k, bindL_get ndP hp hu k⟩
    · obtain ⟨c, e⟩ := cell_has (n := s.heap.objs.size + 1) k
      refine .inr ⟨.inl k, c, e, ?_⟩
      have q := x.cell y c e
      rw [bindC_get ndP hp hu (by show scope.names.lookup y ≠ _; rw [k]; decide)] at q
      exact q
  · exact e0.hok.fresh (Nat.le_of_lt (x.above y c (PySem.mem_of_lookup h)))
  · unfold start
    show _ = N.length
    rw [List.length_append, List.length_map, List.length_replicate]
    omega
theorem fn_of {CX : CXT} {P : Program} {w : World} {K : PySem.W.Frag} {mg : Str → Option Value} {base : Heap} {k : Nat} {f : Addr} {name qual : Str} {params : Arguments} {body : List Stmt} {scope : Scope} {dV kV doc pm cdv ct oc : Value} {an od : Option Addr}
    {osl : Array (Option Value)} {N ps : List Str} {sp : Sp} (lk : K.lookup f = some ⟨oc, od, .func (PySem.W.fnOf name qual params body scope dV kV doc pm an cdv ct), osl⟩) (hcd : PySem.W.codeIn K cdv qual = true) (S : FnScope N ps scope)
    (len : ∀ vs H Q E, sp vs H Q E → vs.length = ps.length)
    (hbody : ∀ (A : Around) (outer : List Env) (s : Shared) (H : Hp) (vs : List V) (Q : VK) (E : XK), Room k (A.deeper (envOfC qual scope s.heap.objs.size f cdv)) → sp vs H Q E →
      ∃ t, PSs (cxOf CX P w K mg base N qual scope f cdv A outer s H E) body t ∧ t { nx := fun _ H' => Q .non H', rt := Q } (start N vs) H) :
    FnOk P w K mg base CX (k + 1) f (PySem.W.fnOf name qual params body scope dV kV doc pm an cdv ct) ps sp := by
  refine ⟨len, fun A outer s H args us vs Q E hr e0 hb r hsp => ?_⟩
  have hl := len _ _ _ _ hsp
  have KX : K.In s.heap := e0.mod.kin.keeps fun b o e => (e0.bs b o e).1
  have lim : s.heap.NoLimit := e0.mod.nolimit.keeps fun b o e => (e0.bs b o e).1
  have hkind : ∀ y ∈ ps.zip us, scope.names.lookup y.1 = some .local ∨ (scope.names.lookup y.1 = some .cell ∧ ((cellsFrom (s.heap.objs.size + 1) scope.names []).lookup y.1).isSome = true) := fun ⟨n, v⟩ hy => by
    rcases S.par n (List.of_mem_zip hy).1 with q | q
    · exact .inl q
    · exact .inr ⟨q, PySem.W.cellsFrom_some _ _ _ (.inl q)⟩
  refine codeAny_call_function hr.depth (KX _ _ lk) rfl S.co S.gen rfl (PySem.W.codeRec_of KX hcd) (hb _ _ _ _ ?_)
  refine wpAny_newFunctionEnv_cells S.kind hkind fun env he s1 x => ?_
  subst he
  refine ⟨lim.keeps x.toInCall.keep, codeAny_func ?_⟩
  obtain ⟨t, ht, hq⟩ := hbody A outer s H vs Q E (hr.deeper _) hsp
  have I : Inv (cxOf CX P w K mg base N qual scope f cdv A outer s H E) [] (start N vs) H s1 := inv_start S hr.hd e0 hl r x
  refine wpAny_mono (ht [] s1 (start N vs) H _ I hq) (fun fl s' hs => ?_) fun e s' hs => hs
  have fin : ∀ {σ' : St} {H' : Hp} {v : V} {u : Value}, Inv (cxOf CX P w K mg base N qual scope f cdv A outer s H E) [] σ' H' s' → RelV v u → Q v H' → CE outer P w H s Q u s' :=
    fun {σ' H' v u} J rv q => ⟨v, H', J.os, J.bare, J.base, J.hok, rv, q⟩
  cases fl with
  | ret u =>
    obtain ⟨v, σ', H', J, rv, q⟩ := hs
    exact fin J rv q
  | next =>
    obtain ⟨σ', H', J, q⟩ := hs
    exact fin (v := V.non) (u := Value.none) J rfl q
  | brk =>
    obtain ⟨_, _, _, q⟩ := hs
    exact False.elim q
  | cont =>
    obtain ⟨_, _, _, q⟩ := hs
    exact False.elim q
end L2
namespace L2
open PySem PySem.Spec PyProof.Rows
section
variable {X : Cx} {x : Str} {p pos : Pos} {e : Expr} {es : List Expr} {t : TA} {id T : String} {r : List V → Hp → VK → Prop}
def tCB (r : List V → Hp → VK → Prop) (t : TA) : TE := fun σ H Q => t σ H fun vs H1 => r vs H1 Q
theorem pe_callB (hc : CallR X (.builtin id) r) (hg : Gl X x) (hm : X.mg x = none) (hv : bootBuiltins x = some (.builtin id)) (ha : PA X (e :: es) t) (hn : x ≠ "__name__" := by decide) (hdb : (x == ("__debug__" : Str)) = false := by decide)
    (he : starEach (e :: es) X.env = (false, eval e X.env) :: starEach es X.env := by rfl) (hpl : (backTo pos (starEach es X.env)).any (·.1) = false := by rfl) : PE X (.Call (.Name x p) (e :: es) [] pos) (tCB r t) := by
  intro pins s σ H Q I h
  refine wpAny_Call_Name_kw (ld_blt I hg hm hv ?_ hn hdb)
  exact PyProof.Rows.callWith_builtin1 (thn (ha pos pins s σ H _ I h) fun us s1 ⟨vs, H1, I1, r1, q1⟩ => hc pins s1 σ H1 vs us Q I1 r1 q1) he hpl
theorem pe_callTy (hc : CallR X (.type T) r) (hg : Gl X x) (hm : X.mg x = none) (hv : bootBuiltins x = some (.type T)) (ha : PA X (e :: es) t) (hn : x ≠ "__name__" := by decide) (hdb : (x == ("__debug__" : Str)) = false := by decide)
    (he : starEach (e :: es) X.env = (false, eval e X.env) :: starEach es X.env := by rfl) (hpl : (backTo pos (starEach es X.env)).any (·.1) = false := by rfl) : PE X (.Call (.Name x p) (e :: es) [] pos) (tCB r t) := by
  intro pins s σ H Q I h
  refine wpAny_Call_Name_kw (ld_blt I hg hm hv ?_ hn hdb)
  exact PyProof.Rows.callWith_type1 (thn (ha pos pins s σ H _ I h) fun us s1 ⟨vs, H1, I1, r1, q1⟩ => hc pins s1 σ H1 vs us Q I1 r1 q1) he hpl
end
end L2
namespace HT
open PySem PyProof.Rows
section
open PySem.SeqAt
open PySem.AutoSeq1 (wpAny_loadPart')
open PySem.MeetsSeq PySem.MeetsSeq2 PySem.MeetsSeq3
end
section
variable {prog : Program} {w : World} {A : Around} {E : Value → Shared → Prop} {s : Shared}
theorem cat_tup {t b : Addr} {vs ws : List Value} {Q : Value → Shared → Prop} (ht : IsTup s.heap t vs.toArray) (hb : IsTup s.heap b ws.toArray) (hv : vs ≠ [])
    (h1 : ws = [] → Q (.ref t) s) (h2 : ws ≠ [] → Q (.ref s.heap.objs.size) { s with heap := s.heap.push { cls := .type "tuple", data := .seq (vs ++ ws).toArray } })
    (hsz : vs.length + ws.length ≤ sizeLine) : wpAny (model prog w) A (binaryOp .Add (.ref t) (.ref b)) Q E s := by
  obtain ⟨⟨cls, dd, data, sl⟩, ho, hc, n, hd⟩ := id ht
  obtain ⟨⟨cls2, dd2, data2, sl2⟩, ho2, hc2, n2, hd2⟩ := id hb
  simp only at hc hd hc2 hd2
  subst hc hd hc2 hd2
  have e : vs.toArray ++ ws.toArray = (vs ++ ws).toArray := by simp
  by_cases hw : ws = []
  · exact concat_meets ⟨_, ho, rfl⟩ ⟨_, ho2, rfl⟩ noFill_tuple_add seq_tuple_add PySem.F.slot_tuple_add PySem.F.entry_tuple_add (PySem.F.args_tuple_add_2 _ _)
      (tuple_addW1 t b vs.toArray ws.toArray n n2 dd dd2 sl sl2 (by simpa using hv) (by simp [hw])) ⟨ho, ho2, h1 hw⟩
  · refine concat_meets ⟨_, ho, rfl⟩ ⟨_, ho2, rfl⟩ noFill_tuple_add seq_tuple_add PySem.F.slot_tuple_add PySem.F.entry_tuple_add (PySem.F.args_tuple_add_2 _ _)
      (tuple_addW2 t b vs.toArray ws.toArray n n2 dd dd2 sl sl2 (by simpa using hv) (by simpa using hw) (by rw [List.size_toArray, List.size_toArray]; exact hsz)) ⟨ho, ho2, ?_⟩
    rw [e]
    exact h2 hw
def sIx (n d : Nat) : Option Int → Nat
  | none => d
  | some v => if v < 0 then (v + (n : Int)).toNat else min v.toNat n
end
end HT
namespace L2
open PySem PySem.Spec PyProof.Rows
abbrev TO := St → Hp → (Option Int → Hp → Prop) → Prop
def PO (X : Cx) (e : Option Expr) (t : TO) : Prop :=
  ∀ (pins : List (Addr × Obj)) (s : Shared) (σ : St) (H : Hp) (Q : Option Int → Hp → Prop), Inv X pins σ H s → t σ H Q →
    wpAny (model X.prog X.w) X.A (evalPart e X.env) (fun u s' => ∃ o H', Inv X pins σ H' s' ∧ IsPart u o ∧ Q o H') X.xe s
section
variable {X : Cx} {e : Expr} {te : TE} {lo hi : Option Expr} {tl th : TO} {pos p2 : Pos}
def SlR (X : Cx) (r : V → Option Int → Option Int → Hp → VK → Prop) : Prop :=
  ∀ (pins : List (Addr × Obj)) (s : Shared) (σ : St) (H : Hp) (x : V) (v vl vu : Value) (lo hi : Option Int) (sl : Addr) (Q : VK), Inv X pins σ H s → RelV x v → s.heap.IsSliceOf sl vl vu .none → IsPart vl lo → IsPart vu hi → r x lo hi H Q →
    ∃ T id, typeLookup (.type T) "__getitem__" = pure (some (.builtin id)) ∧ s.TypeIs v T ∧ wpAny (model X.prog X.w) X.A (getItem v (.ref sl)) (EP X pins σ Q) X.xe s
theorem SlR.or {r r' : V → Option Int → Option Int → Hp → VK → Prop} (h : SlR X r) (h' : SlR X r') : SlR X (fun x lo hi H Q => r x lo hi H Q ∨ r' x lo hi H Q) := by
  intro pins s σ H x v vl vu lo hi sl Q I rx hs pl pu q
  rcases q with q | q
  · exact h pins s σ H x v vl vu lo hi sl Q I rx hs pl pu q
  · exact h' pins s σ H x v vl vu lo hi sl Q I rx hs pl pu q
def rCatT (K : PySem.W.Frag) : R2 := fun x y H Q => ∃ a b xs ys, x = .ref a ∧ y = .ref b ∧ SqT K H a xs ∧ SqT K H b ys ∧ xs ≠ [] ∧ xs.length + ys.length ≤ sizeLine ∧
  (ys = [] → Q (.ref a) H) ∧ (ys ≠ [] → ∀ p, H p = none → Q (.ref p) (upd H p (.tup (xs ++ ys))))
theorem Vals.nil_iff {xs : List V} {us : List Value} (r : Vals xs us) : us = [] ↔ xs = [] := by
  cases r with
  | nil => simp
  | cons _ _ => simp
theorem op_catT : OpR X (binaryOp .Add) (rCatT X.K) := by
  intro pins s σ H x y v u Q I rx ry h
  obtain ⟨a, b, xs, ys, rfl, rfl, ha, hb, hx, hz, q1, q2⟩ := h
  cases rx
  cases ry
  obtain ⟨its, r1, p1, _⟩ := I.tuple ha
  obtain ⟨its2, r2, p2, _⟩ := I.tuple hb
  refine HT.cat_tup p1 p2 (fun z => hx (r1.nil_iff.mp z)) (fun z => ⟨.ref a, H, I, rfl, q1 (r2.nil_iff.mp z)⟩) (fun z => ?_) (by rw [← r1.length, ← r2.length]; exact hz)
  refine ⟨.ref s.heap.objs.size, _, I.laid (t' := s.toks) (o := .tup (xs ++ ys)) (fun b ob q => Heap.get?_push_of_some _ q) (Nat.le_refl _) ?_, rfl, q2 (fun w => z (r2.nil_iff.mpr w)) _ (I.hok.fresh (Nat.le_refl _))⟩
  exact ⟨by rw [List.length_append]; exact hz, _, r1.append r2, IsTup.new _ _⟩
end
end L2
namespace L2
open PySem PySem.Spec PyProof.Rows
def ixN (n : Nat) (i : Int) : Option Nat := if 0 ≤ i then (if i < n then some i.toNat else none) else if -(n : Int) ≤ i then some (i + n).toNat else none
def atI {α : Type} (xs : List α) (i : Int) : Option α := (ixN xs.length i).bind fun j => xs[j]?
theorem ixN_seq {n : Nat} {i : Int} {j : Nat} (h : ixN n i = some j) : seqIndex? i n = some j ∧ j < n ∧ -(n : Int) ≤ i ∧ i < n := by
  unfold ixN at h
  by_cases h0 : 0 ≤ i
  · rw [if_pos h0] at h
    by_cases h1 : i < n
    · rw [if_pos h1] at h
      have e : i.toNat = j := Option.some.inj h
      exact ⟨by rw [seqIndex_of h0 h1, e], by omega, by omega, h1⟩
    · rw [if_neg h1] at h; cases h
  · rw [if_neg h0] at h
    by_cases h1 : -(n : Int) ≤ i
    · rw [if_pos h1] at h
      have e : (i + n).toNat = j := Option.some.inj h
      exact ⟨by rw [seqIndex_neg (by omega) h1, e], by omega, h1, by omega⟩
    · rw [if_neg h1] at h; cases h
theorem atI_get {α : Type} {xs : List α} {i : Int} {v : α} (h : atI xs i = some v) : ∃ j, seqIndex? i xs.length = some j ∧ xs[j]? = some v ∧ j < xs.length ∧ -(xs.length : Int) ≤ i ∧ i < xs.length := by
  unfold atI at h
  cases e : ixN xs.length i with
  | none => rw [e] at h; cases h
  | some j =>
    rw [e] at h
    obtain ⟨h1, h2, h3, h4⟩ := ixN_seq e
    exact ⟨j, h1, h, h2, h3, h4⟩
def PlainIx (b : Expr) : Prop := ∀ o i, subscripted b false o i = operate [o, i] (getItem o i)
def IxR (X : Cx) (r : R2) : Prop :=
  ∀ (value slice : Expr) (pins : List (Addr × Obj)) (s : Shared) (σ : St) (H : Hp) (x y : V) (v u : Value) (Q : VK), Inv X pins σ H s → RelV x v → RelV y u → r x y H Q →
    subscripted slice false v u = operate [v, u] (getItem v u) → wpAny (model X.prog X.w) X.A (subscriptTail value slice v u) (EP X pins σ Q) X.xe s
def MtR (X : Cx) (id : String) (r : V → List V → Hp → VK → Prop) : Prop :=
  ∀ (pins : List (Addr × Obj)) (s : Shared) (σ : St) (H : Hp) (x : V) (xs : List V) (v : Value) (us : List Value) (Q : VK), Inv X pins σ H s → RelV x v → Vals xs us → r x xs H Q →
    wpAny (model X.prog X.w) X.A (call (.builtin id) (v :: us)) (EP X pins σ Q) X.xe s
section
variable {X : Cx} {a b : Expr} {ta tb : TE} {pos : Pos}
theorem IxR.or {r r' : R2} (h : IxR X r) (h' : IxR X r') : IxR X (fun x y H Q => r x y H Q ∨ r' x y H Q) := by
  intro value slice pins s σ H x y v u Q I rx ry q hs
  rcases q with q | q
  · exact h value slice pins s σ H x y v u Q I rx ry q hs
  · exact h' value slice pins s σ H x y v u Q I rx ry q hs
theorem MtR.or {id : String} {r r' : V → List V → Hp → VK → Prop} (h : MtR X id r) (h' : MtR X id r') : MtR X id (fun x xs H Q => r x xs H Q ∨ r' x xs H Q) := by
  intro pins s σ H x xs v us Q I rx rs q
  rcases q with q | q
  · exact h pins s σ H x xs v us Q I rx rs q
  · exact h' pins s σ H x xs v us Q I rx rs q
theorem pe_ix {r : R2} (hr : IxR X r) (ha : PE X a ta) (hb : PE X b tb) (hs : PlainIx b) : PE X (.Subscript a b pos) (tOp r ta tb) := by
  intro pins s σ H Q I h
  exact Subscript_ (binT ha hb I h fun v u s2 x y H2 I2 rx ry q => hr a b pins s2 σ H2 x y v u Q I2 rx ry q (hs _ _))
def rIxL (K : PySem.W.Frag) : R2 := fun x y H Q => ∃ p xs i v, x = .ref p ∧ y = .int i ∧ SqL K H p xs ∧ atI xs i = some v ∧ Q v H
def rIxT (K : PySem.W.Frag) : R2 := fun x y H Q => ∃ p xs i v, x = .ref p ∧ y = .int i ∧ SqT K H p xs ∧ atI xs i = some v ∧ Q v H
def rIxS : R2 := fun x y H Q => ∃ z i c, x = .str z ∧ y = .int i ∧ z.length ≤ sizeLine ∧ atI z.cps.toList i = some c ∧ Q (.str ⟨#[c]⟩) H
theorem ix_list : IxR X (rIxL X.K) := by
  intro value slice pins s σ H x y v u Q I rx ry h hs
  obtain ⟨p, xs, i, z, rfl, rfl, hq, he, q⟩ := h
  cases rx
  obtain ⟨t, rfl⟩ := ry
  obtain ⟨its, r, pl, hz⟩ := I.list hq
  obtain ⟨j, h1, h2, h3, h4, h5⟩ := atI_get he
  obtain ⟨w, ew, rw'⟩ := r.get h2
  have hl := r.length
  have hn := line63
  have fin : EP X pins σ Q w s := ⟨z, H, I, rw', q⟩
  by_cases h0 : 0 ≤ i
  · have hj : i.toNat = j := by
      rw [seqIndex_of h0 h5] at h1
      exact Option.some.inj h1
    exact item_listR pl.isList h0 (by omega) (by rw [hj]; simpa using ew) fin hs
  · have hj : (i + (its.toArray.size : Int)).toNat = j := by
      rw [seqIndex_neg (by omega) h4] at h1
      rw [List.size_toArray, ← hl]
      exact Option.some.inj h1
    exact subscriptTail_builtinR (x := w) pl.isList.typeIs slot_list_getitem.lookup
      (wpAny_getItem_list_neg (Q := fun r s' => r = w ∧ EP X pins σ Q r s') pl.isList (by omega) (by rw [List.size_toArray] <;> omega) (by omega) (by rw [hj]; simpa using ew) ⟨rfl, fin⟩) hs
theorem ix_tup : IxR X (rIxT X.K) := by
  intro value slice pins s σ H x y v u Q I rx ry h hs
  obtain ⟨p, xs, i, z, rfl, rfl, hq, he, q⟩ := h
  cases rx
  obtain ⟨t, rfl⟩ := ry
  obtain ⟨its, r, pl, hz⟩ := I.tuple hq
  obtain ⟨j, h1, h2, h3, h4, h5⟩ := atI_get he
  obtain ⟨w, ew, rw'⟩ := r.get h2
  have hl := r.length
  have hn := line63
  have fin : EP X pins σ Q w s := ⟨z, H, I, rw', q⟩
  exact subscriptTail_builtinR (x := w) pl.typeIs slot_tuple_getitem.lookup
    (getItem_tuple (j := j) (Q := fun r s' => r = w ∧ EP X pins σ Q r s') pl (by omega) (by omega) (by rw [List.size_toArray, ← hl]; exact h1) (by simpa using ew) ⟨rfl, fin⟩) hs
theorem ix_str : IxR X rIxS := by
  intro value slice pins s σ H x y v u Q I rx ry h hs
  obtain ⟨z, i, c, rfl, rfl, hz, he, q⟩ := h
  obtain ⟨t, rfl⟩ := rx
  obtain ⟨t', rfl⟩ := ry
  obtain ⟨j, h1, h2, h3, h4, h5⟩ := atI_get he
  have hl : z.cps.toList.length = z.length := by simp [Str.length]
  rw [hl] at h1 h4 h5
  have hn := line63
  exact tail_any (typeIs_str s z t) slot_str_getitem.lookup (getItem_str (c := c) (by
    have e1 : decide (i < -(2 ^ 63 : Int)) = false := decide_eq_false (by omega)
    have e2 : decide (i ≥ 2 ^ 63) = false := decide_eq_false (by omega)
    rw [e1, e2, Bool.or_false]) (by rw [h1]; simpa using h2) ⟨.str ⟨#[c]⟩, H, I.tok _, ⟨_, rfl⟩, q⟩) hs
def rIx (K : PySem.W.Frag) : R2 := fun x y H Q => rIxL K x y H Q ∨ rIxT K x y H Q ∨ rIxS x y H Q
theorem ix_seq : IxR X (rIx X.K) := ix_list.or (ix_tup.or ix_str)
theorem mapSeq_set (its : List Value) (n j : Nat) (u : Value) : Obj.mapSeq (·.setIfInBounds j u) { cls := .type "list", data := .seq its.toArray n } = { cls := .type "list", data := .seq (its.set j u).toArray n } := by
  simp [Obj.mapSeq]
theorem Inv.lst {pins : List (Addr × Obj)} {σ : St} {H : Hp} {s : Shared} {p : Addr} {xs : List V} (I : Inv X pins σ H s) (h : H p = some (.lst xs)) :
    ∃ (its : List Value) (n : Nat), Vals xs its ∧ s.heap.get? p = some { cls := .type "list", data := .seq its.toArray n } ∧ xs.length ≤ sizeLine := by
  obtain ⟨z, its, n, r, e⟩ := I.hok p _ h
  exact ⟨its, n, r, e, z⟩
theorem Inv.lstUpd {pins : List (Addr × Obj)} {σ : St} {H : Hp} {s : Shared} {p : Addr} {xs ys : List V} {its its' : List Value} {n n' : Nat} {f : Obj → Obj} (I : Inv X pins σ H s) (h : H p = some (.lst xs))
    (ho : s.heap.get? p = some { cls := .type "list", data := .seq its.toArray n }) (hf : f { cls := .type "list", data := .seq its.toArray n } = { cls := .type "list", data := .seq its'.toArray n' }) (r : Vals ys its') (hz : ys.length ≤ sizeLine) (t : Nat) :
    Inv X pins σ (upd H p (.lst ys)) { s with heap := s.heap.update p f, toks := t } := by
  have e : (s.heap.update p f).get? p = some { cls := .type "list", data := .seq its'.toArray n' } := by
    rw [Heap.get?_update_self f ho (by rw [hf] <;> rfl), hf]
  refine I.write (x := p) (e := p) (by rw [h]; trivial) (.inl rfl) (fun b u hb q => (Heap.get?_update_other _ _ (Ne.symm hb)).trans q) ⟨_, e⟩ ?_
  exact ⟨hz, its', n', r, e⟩
def rSetL : V → V → V → Hp → (Hp → Prop) → Prop := fun o i v H Q => ∃ p xs k j, o = .ref p ∧ i = .int k ∧ H p = some (.lst xs) ∧ ixN xs.length k = some j ∧ Q (upd H p (.lst (xs.set j v)))
theorem set_list : PSet X rSetL := by
  intro pins s σ H o i v ov iv u Q I ro ri rv h
  obtain ⟨p, xs, k, j, rfl, rfl, hp, hj, q⟩ := h
  cases ro
  obtain ⟨t, rfl⟩ := ri
  obtain ⟨its, n, r, ho, hz⟩ := I.lst hp
  obtain ⟨h1, h2, h3, h4⟩ := ixN_seq hj
  have hl := r.length
  have hn := line63
  have I' : Inv X pins σ (upd H p (.lst (xs.set j v))) { s with heap := s.heap.update p (Obj.mapSeq (·.setIfInBounds j u)) } :=
    I.lstUpd hp ho (mapSeq_set its n j u) (r.set rv j) (by rw [List.length_set]; exact hz) s.toks
  by_cases h0 : 0 ≤ k
  · have hk : k.toNat = j := by
      rw [seqIndex_of h0 h4] at h1
      exact Option.some.inj h1
    exact PySem.W.ki_setAt ho h0 (by omega) (by rw [List.size_toArray, ← hl]; exact h4) (by rw [hk]; exact ⟨_, I', q⟩)
  · have hk : (k + (its.toArray.size : Int)).toNat = j := by
      rw [seqIndex_neg (by omega) h3] at h1
      rw [List.size_toArray, ← hl]
      exact Option.some.inj h1
    exact PySem.W.ki_setBack ho (by omega) (by rw [List.size_toArray, ← hl]; exact h3) (by omega) (by rw [hk]; exact ⟨_, I', q⟩)
def flatV : V → Bool
  | .non => true
  | .bl _ => true
  | .int _ => true
  | .str _ => true
  | _ => false
def eqV : V → V → Bool
  | .non, .non => true
  | .bl a, .bl b => a == b
  | .bl a, .int b => (if a then 1 else 0) == b
  | .int a, .bl b => a == (if b then 1 else 0)
  | .int a, .int b => a == b
  | .str a, .str b => a == b
  | _, _ => false
theorem eqAt_V {A : Around} {s : Shared} {y x : V} {u v : Value} (ry : RelV y u) (rx : RelV x v) (fy : flatV y = true) (fx : flatV x = true) : SeqAt.EqAt A s u v (eqV y x) := by
  cases y with
  | non =>
    cases ry
    cases x with
    | non => cases rx; exact SeqAt.EqAt.same _
    | bl b => cases rx; exact SeqAt.EqAt.none_bool b
    | int b => obtain ⟨t, rfl⟩ := rx; exact SeqAt.EqAt.none_int b t
    | str b => obtain ⟨t, rfl⟩ := rx; exact SeqAt.EqAt.none_str b t
    | _ => exact absurd (show false = true from fx) Bool.false_ne_true
  | bl a =>
    cases ry
    cases x with
    | non => cases rx; exact SeqAt.EqAt.bool_none a
    | bl b => cases rx; exact SeqAt.EqAt.bool_bool a b
    | int b => obtain ⟨t, rfl⟩ := rx; exact SeqAt.EqAt.bool_int a b t
    | str b => obtain ⟨t, rfl⟩ := rx; exact SeqAt.EqAt.bool_str a b t
    | _ => exact absurd (show false = true from fx) Bool.false_ne_true
  | int a =>
    obtain ⟨t', rfl⟩ := ry
    cases x with
    | non => cases rx; exact SeqAt.EqAt.int_none a t'
    | bl b => cases rx; exact SeqAt.EqAt.int_bool a t' b
    | int b => obtain ⟨t, rfl⟩ := rx; exact SeqAt.EqAt.int_int a t' b t
    | str b => obtain ⟨t, rfl⟩ := rx; exact SeqAt.EqAt.int_str a t' b t
    | _ => exact absurd (show false = true from fx) Bool.false_ne_true
  | str a =>
    obtain ⟨t', rfl⟩ := ry
    cases x with
    | non => cases rx; exact SeqAt.EqAt.str_none a t'
    | bl b => cases rx; exact SeqAt.EqAt.str_bool a t' b
    | int b => obtain ⟨t, rfl⟩ := rx; exact SeqAt.EqAt.str_int a t' b t
    | str b => obtain ⟨t, rfl⟩ := rx; exact SeqAt.EqAt.str_str a t' b t
    | _ => exact absurd (show false = true from fx) Bool.false_ne_true
  | _ => exact absurd (show false = true from fy) Bool.false_ne_true
def eqU (x : V) (u : Value) : Bool := match u with
  | .none => eqV .non x
  | .bool b => eqV (.bl b) x
  | .int i _ => eqV (.int i) x
  | .str z _ => eqV (.str z) x
  | _ => false
theorem eqU_of {x y : V} {u : Value} (r : RelV y u) (f : flatV y = true) : eqU x u = eqV y x := by
  cases y with
  | non => cases r; rfl
  | bl b => cases r; rfl
  | int i => obtain ⟨t, rfl⟩ := r; rfl
  | str z => obtain ⟨t, rfl⟩ := r; rfl
  | _ => exact absurd (show false = true from f) Bool.false_ne_true
theorem any_eqU {x : V} : ∀ {xs : List V} {us : List Value}, Vals xs us → xs.all flatV = true → us.any (eqU x) = xs.any fun y => eqV y x
  | _, _, .nil, _ => rfl
  | y :: xs, u :: us, .cons r t, f => by
    rw [List.all_cons, Bool.and_eq_true] at f
    rw [List.any_cons, List.any_cons, eqU_of r f.1, any_eqU t f.2]
theorem mem_eqAt {A : Around} {s : Shared} {x : V} {v : Value} (rx : RelV x v) (fx : flatV x = true) : ∀ {xs : List V} {us : List Value}, Vals xs us → xs.all flatV = true → ∀ u ∈ us, SeqAt.EqAt A s u v (eqU x u)
  | _, _, .nil, _ => fun u hu => by cases hu
  | y :: xs, u :: us, .cons r t, f => fun u' hu => by
    rw [List.all_cons, Bool.and_eq_true] at f
    rcases List.mem_cons.mp hu with rfl | hu
    · rw [eqU_of r f.1]; exact eqAt_V r rx f.1 fx
    · exact mem_eqAt rx fx t f.2 u' hu
def inV (x : V) (xs : List V) : Bool := xs.any fun y => eqV y x
def rIn (K : PySem.W.Frag) (neg : Bool) : R2 := fun x y H Q => ∃ p xs, y = .ref p ∧ (SqL K H p xs ∨ SqT K H p xs) ∧ flatV x = true ∧ xs.all flatV = true ∧ Q (.bl (if neg then !inV x xs else inV x xs)) H
theorem op_in_seq : OpR X (compareOp .In) (rIn X.K false) := by
  intro pins s σ H x y v u Q I rx ry h
  obtain ⟨p, xs, rfl, hq, fx, fs, q⟩ := h
  cases ry
  rcases hq with hq | hq
  · obtain ⟨its, r, pl, hz⟩ := I.list hq
    refine SeqAt.in_listAt (eqU x) pl.isList (fun w hw => mem_eqAt rx fx r fs w (by simpa using hw)) ⟨.bl _, H, I, rfl, ?_⟩
    rw [show its.toArray.any (eqU x) = its.any (eqU x) by simp, any_eqU r fs]
    exact q
  · obtain ⟨its, r, pl, hz⟩ := I.tuple hq
    refine SeqAt.in_tupleAt (eqU x) pl (fun w hw => mem_eqAt rx fx r fs w (by simpa using hw)) ⟨.bl _, H, I, rfl, ?_⟩
    rw [show its.toArray.any (eqU x) = its.any (eqU x) by simp, any_eqU r fs]
    exact q
theorem op_notIn_seq : OpR X (compareOp .NotIn) (rIn X.K true) := by
  intro pins s σ H x y v u Q I rx ry h
  obtain ⟨p, xs, rfl, hq, fx, fs, q⟩ := h
  cases ry
  rcases hq with hq | hq
  · obtain ⟨its, r, pl, hz⟩ := I.list hq
    refine SeqAt.notIn_listAt (eqU x) pl.isList (fun w hw => mem_eqAt rx fx r fs w (by simpa using hw)) ⟨.bl _, H, I, rfl, ?_⟩
    rw [show its.toArray.any (eqU x) = its.any (eqU x) by simp, any_eqU r fs]
    exact q
  · obtain ⟨its, r, pl, hz⟩ := I.tuple hq
    refine SeqAt.notIn_tupleAt (eqU x) pl (fun w hw => mem_eqAt rx fx r fs w (by simpa using hw)) ⟨.bl _, H, I, rfl, ?_⟩
    rw [show its.toArray.any (eqU x) = its.any (eqU x) by simp, any_eqU r fs]
    exact q
theorem call_len_seq : CallR X (.builtin "len") (fun xs H Q => ∃ p ys, xs = [.ref p] ∧ (SqL X.K H p ys ∨ SqT X.K H p ys) ∧ Q (.int ys.length) H) := by
  intro pins s σ H xs us Q I r h
  obtain ⟨p, ys, rfl, hq, q⟩ := h
  obtain ⟨u, rfl, rx⟩ := vals1 r
  cases rx
  have hn := line63
  rcases hq with hq | hq
  · obtain ⟨its, r', pl, hz⟩ := I.list hq
    have hlen := r'.length
    exact Calls.call_len_list pl.isList (by simp only [List.size_toArray] <;> omega) ⟨.int ys.length, H, I.tok _, ⟨s.toks + 1, by rw [List.size_toArray, hlen]⟩, q⟩
  · obtain ⟨its, r', pl, hz⟩ := I.tuple hq
    have hlen := r'.length
    exact len_tuple pl (by simp only [List.size_toArray] <;> omega) ⟨.int ys.length, H, I.tok _, ⟨s.toks + 1, by rw [List.size_toArray, hlen]⟩, q⟩
theorem call_len_str : CallR X (.builtin "len") (fun xs H Q => ∃ z, xs = [.str z] ∧ z.length ≤ sizeLine ∧ Q (.int z.length) H) := by
  intro pins s σ H xs us Q I r h
  obtain ⟨z, rfl, hz, q⟩ := h
  obtain ⟨u, rfl, t, rfl⟩ := vals1 r
  have hn := line63
  exact len_str (by omega) ⟨.int z.length, H, I.tok _, ⟨_, rfl⟩, q⟩
theorem CallR.or {f : Value} {r r' : List V → Hp → VK → Prop} (h : CallR X f r) (h' : CallR X f r') : CallR X f (fun xs H Q => r xs H Q ∨ r' xs H Q) := by
  intro pins s σ H xs us Q I rs q
  rcases q with q | q
  · exact h pins s σ H xs us Q I rs q
  · exact h' pins s σ H xs us Q I rs q
theorem call_tuple_of : CallR X (.type "tuple") (fun xs H Q => ∃ p ys, xs = [.ref p] ∧ ((SqL X.K H p ys ∧ ∀ l, H l = none → Q (.ref l) (upd H l (.tup ys))) ∨ (SqT X.K H p ys ∧ Q (.ref p) H))) := by
  intro pins s σ H xs us Q I r h
  obtain ⟨p, ys, rfl, h⟩ := h
  obtain ⟨u, rfl, rx⟩ := vals1 r
  cases rx
  rcases h with ⟨hq, q⟩ | ⟨hq, q⟩
  · obtain ⟨its, r', pl, hz⟩ := I.list hq
    have hlen := r'.length
    refine call_tuple_list pl.isList (fun h' kp => ?_) (by simp only [List.size_toArray] <;> omega)
    have I1 : Inv X pins σ H { s with heap := h' } := I.kept (t' := s.toks) kp
    have I2 : Inv X pins σ (upd H h'.objs.size (.tup ys)) { s with heap := h'.push { cls := .type "tuple", data := .seq its.toArray } } :=
      I1.laid (t' := s.toks) (fun b o e => Heap.get?_push_of_some _ e) (Nat.le_refl _) (show ObjOk X.prog X.w _ _ _ (.tup ys) from ⟨hz, its, r', IsTup.new _ _⟩)
    exact ⟨.ref h'.objs.size, _, I2, rfl, q _ (I1.hok.fresh (Nat.le_refl _))⟩
  · obtain ⟨its, r', pl, hz⟩ := I.tuple hq
    exact call_tuple_same pl ⟨.ref p, H, I, rfl, q⟩
def tyV (K : PySem.W.Frag) (T : String) (x : V) (H : Hp) : Prop := match x with
  | .str _ => T = "str"
  | .int _ => T = "int"
  | .ref p => (T = "list" ∧ ∃ xs, SqL K H p xs) ∨ (T = "tuple" ∧ ∃ o, K.lookup p = some o ∧ o.cls = .type "tuple" ∧ o.dict = none) ∨
      (T = "dict" ∧ ((∃ kvs, H p = some (.dK kvs)) ∨ ∃ kvs, H p = some (.dT kvs))) ∨ (T = "set" ∧ ∃ S n, H p = some (.set S n))
  | _ => False
theorem tyV_is {pins : List (Addr × Obj)} {σ : St} {H : Hp} {s : Shared} {T : String} {x : V} {v : Value} (I : Inv X pins σ H s) (r : RelV x v) (ty : tyV X.K T x H) :
    s.TypeIs v T ∧ ∀ a, v = .ref a → ∃ ob, s.heap.get? a = some ob ∧ ob.dict = none := by
  cases x with
  | str z =>
    obtain ⟨t, rfl⟩ := r
    cases (show T = "str" from ty)
    exact ⟨typeIs_str s z t, fun _ e => nomatch e⟩
  | int i =>
    obtain ⟨t, rfl⟩ := r
    cases (show T = "int" from ty)
    exact ⟨typeIs_int s i t, fun _ e => nomatch e⟩
  | ref p =>
    cases r
    rcases ty with ⟨rfl, xs, hq⟩ | ⟨rfl, o, hk, hc, hd⟩ | ⟨rfl, hk⟩ | ⟨rfl, S, n, hk⟩
    · obtain ⟨its, _, pl, _⟩ := I.list hq
      refine ⟨pl.isList.typeIs, fun a e => ?_⟩
      cases e
      obtain ⟨o, n, e, c, hd, _⟩ := pl
      exact ⟨o, e, hd⟩
    · refine ⟨⟨o, I.kIn p o hk, hc⟩, fun a e => ?_⟩
      cases e
      exact ⟨o, I.kIn _ o hk, hd⟩
    · have z : ∃ o, s.heap.get? p = some o ∧ o.ExactDict := by
        rcases hk with ⟨kvs, hk⟩ | ⟨kvs, hk⟩
        · obtain ⟨_, _, _, _, o, _, _, e, ex, _⟩ := I.hok p _ hk
          exact ⟨o, e, ex⟩
        · obtain ⟨_, _, _, _, o, _, _, e, ex, _⟩ := I.hok p _ hk
          exact ⟨o, e, ex⟩
      obtain ⟨o, e, ex⟩ := z
      refine ⟨⟨o, e, ex.1⟩, fun a e2 => ?_⟩
      cases e2
      exact ⟨o, e, ex.2.1⟩
    · obtain ⟨o, _, _, _, e, ex, _⟩ := I.hok p _ hk
      refine ⟨⟨o, e, ex.1⟩, fun a e2 => ?_⟩
      cases e2
      exact ⟨o, e, ex.2.1⟩
  | _ => exact False.elim ty
def tBM (K : PySem.W.Frag) (T : String) (r : V → List V → Hp → VK → Prop) (to : TE) (t : TA) : TE := fun σ H Q => to σ H fun x H1 => tyV K T x H1 ∧ t σ H1 fun xs H2 => r x xs H2 Q
variable {o e : Expr} {es : List Expr} {to : TE} {t : TA} {name : Str} {apos cpos : Pos} {T id : String} {r : V → List V → Hp → VK → Prop}
theorem pe_bm (pa : PlainAttrs T) (slot : Slot T name id) (hty : typeOf (.builtin id) = pure (.type "method_descriptor")) (hm : MtR X id r) (ho : PE X o to) (ha : PA X (e :: es) t)
    (hbase : attributeBase o name X.env (eval o X.env) = eval o X.env := by rfl)
    (hfew : ((backTo cpos (starEach (e :: es) X.env)).all (fun x => !x.1) && (backToKw cpos (keywordEach [] X.env)).all (fun x => x.1.isSome)
      && decide ((e :: es).length + ([] : List Keyword).length + (if ([] : List Keyword).isEmpty then 0 else 1) < 30)) = true := by rfl)
    (hline : (apos.endLine == cpos.line) = true := by rfl) (hs : starEach (e :: es) X.env = (false, eval e X.env) :: starEach es X.env := by rfl) (hplain : (backTo cpos (starEach es X.env)).any (·.1) = false := by rfl) :
    PE X (.Call (.Attribute o name apos) (e :: es) [] cpos) (tBM X.K T r to t) := by
  intro pins s σ H Q I h
  refine wpAny_Call_method_late hbase hfew hline rfl (thn (ho pins s σ H _ I h) fun v s1 ⟨x, H1, I1, r1, ty, q1⟩ => ?_)
  obtain ⟨h1, h2⟩ := tyV_is I1 r1 ty
  refine ⟨T, id, pa, slot, hty, h1, h2, ?_⟩
  have hA := ha cpos pins s1 σ H1 _ I1 q1
  rw [hs] at hA ⊢
  refine Calls.callWith_builtin (by show (false || (backTo cpos (starEach es X.env)).any (·.1)) = false; rw [hplain] <;> rfl) (Calls.evalArgs_plain ?_)
  exact thn hA fun us s2 ⟨vs, H2, I2, r2, q2⟩ => hm pins s2 σ H2 x vs v us Q I2 r1 r2 q2
end
end L2
namespace L2
open PySem PySem.Spec PyProof.Rows
def MtM (X : Cx) (id : String) (r : V → List V → Hp → VK → Prop) : Prop :=
  ∀ (pins : List (Addr × Obj)) (s : Shared) (σ : St) (H : Hp) (x : V) (xs : List V) (v : Value) (us : List Value) (Q : VK), Inv X pins σ H s → RelV x v → Vals xs us → r x xs H Q →
    wpAny (model X.prog X.w) X.A (call (.builtin id) (v :: us)) (EP X pins σ Q) X.xe s
theorem Vals.one : ∀ {x : V} {us : List Value}, Vals [x] us → ∃ u, us = [u] ∧ RelV x u
  | _, _, .cons r .nil => ⟨_, rfl, r⟩
theorem Vals.two : ∀ {x y : V} {us : List Value}, Vals [x, y] us → ∃ u v, us = [u, v] ∧ RelV x u ∧ RelV y v
  | _, _, _, .cons r (.cons q .nil) => ⟨_, _, rfl, r, q⟩
theorem Vals.zero : ∀ {us : List Value}, Vals [] us → us = []
  | _, .nil => rfl
theorem Vals.dropLast {xs : List V} {us : List Value} (h : Vals xs us) : Vals xs.dropLast us.dropLast := by
  induction h with
  | nil => exact .nil
  | cons r t ih =>
    cases t with
    | nil => exact .nil
    | cons q t' => exact .cons r ih
theorem Vals.rep {xs : List V} {us : List Value} (h : Vals xs us) : ∀ k : Nat, Vals (List.replicate k xs).flatten (List.replicate k us).flatten
  | 0 => .nil
  | k + 1 => by
    rw [List.replicate_succ, List.replicate_succ, List.flatten_cons, List.flatten_cons]
    exact Vals.append h (Vals.rep h k)
theorem foldl_rep (its : List Value) : ∀ (k : Nat) (acc : List Value),
    List.foldl (fun x1 x2 => x1 ++ x2) acc.toArray (List.replicate k its.toArray) = (acc ++ (List.replicate k its).flatten).toArray
  | 0, acc => by simp
  | k + 1, acc => by
    have e : acc.toArray ++ its.toArray = (acc ++ its).toArray := by simp
    have e2 : (acc ++ its) ++ (List.replicate k its).flatten = acc ++ (List.replicate (k + 1) its).flatten := by
      rw [List.replicate_succ, List.flatten_cons, List.append_assoc]
    rw [← e2, ← foldl_rep its k (acc ++ its), ← e, List.replicate_succ, List.foldl_cons]
section
variable {X : Cx} {pins : List (Addr × Obj)} {σ : St} {H : Hp} {s : Shared} {l b : Addr} {xs ys zs : List V}
theorem Inv.lset {its its' : List Value} {n : Nat} {f : Array Value → Array Value} {t' : Nat} (I : Inv X pins σ H s) (hH : H l = some (.lst xs))
    (e : s.heap.get? l = some { cls := .type "list", data := .seq its.toArray n }) (hf : f its.toArray = its'.toArray) (hv : Vals ys its') (hz : ys.length ≤ sizeLine) :
    Inv X pins σ (upd H l (.lst ys)) { s with heap := s.heap.update l (Obj.mapSeq f), toks := t' } := by
  have q := PySem.IsL.update e f
  rw [hf] at q
  refine I.write (x := l) (e := l) (by rw [hH]; exact trivial) (.inl rfl) (fun b' u hb hu => (Heap.get?_update_other s.heap (Obj.mapSeq f) (Ne.symm hb)).trans hu) ⟨_, q⟩ ?_
  exact ⟨hz, its', _, hv, q⟩
theorem Inv.lnew {its : List Value} {t' : Nat} (I : Inv X pins σ H s) (hv : Vals ys its) (hz : ys.length ≤ sizeLine) :
    Inv X pins σ (upd H s.heap.objs.size (.lst ys)) { s with heap := s.heap.push { cls := .type "list", data := .seq its.toArray }, toks := t' } :=
  I.laid (fun _ _ q => Heap.get?_push_of_some _ q) (Nat.le_refl _) ⟨hz, its, 0, hv, Heap.get?_push_size _ rfl⟩
theorem Inv.fresh (I : Inv X pins σ H s) : H s.heap.objs.size = none := I.hok.fresh (Nat.le_refl _)
theorem Inv.lstM (I : Inv X pins σ H s) (hH : H l = some (.lst xs)) : xs.length ≤ sizeLine ∧ ∃ (its : List Value) (n : Nat), Vals xs its ∧ xs.length = its.length ∧ s.heap.get? l = some { cls := .type "list", data := .seq its.toArray n } := by
  obtain ⟨z, its, n, r, e⟩ := I.hok l _ hH
  exact ⟨z, its, n, r, r.length, e⟩
end
section
variable {X : Cx}
def rAppend : V → List V → Hp → VK → Prop := fun x vs H Q => ∃ l xs y, x = .ref l ∧ vs = [y] ∧ H l = some (.lst xs) ∧ xs.length < sizeLine ∧ Q .non (upd H l (.lst (xs ++ [y])))
theorem mt_append : MtM X "list.append" rAppend := by
  intro pins s σ H x vs v us Q I rx rv h
  obtain ⟨l, xs, y, rfl, rfl, hH, hz, q⟩ := h
  cases rx
  obtain ⟨u, rfl, ru⟩ := rv.one
  obtain ⟨z, its, n, r, hl, e⟩ := I.lstM hH
  refine call_meets F.slot_list_append ⟨_, e, rfl⟩ F.entry_list_append (F.args_list_append_2 _ _) (PySem.list_append l its.toArray n u (by rw [List.size_toArray]; omega)) ⟨e, ?_⟩
  refine ⟨.non, _, I.lset (its' := its ++ [u]) hH e (by simp) (r.append (.cons ru .nil)) ?_, rfl, q⟩
  rw [List.length_append, List.length_singleton]
  omega
def rCat : R2 := fun x y H Q => ∃ l b xs zs, x = .ref l ∧ y = .ref b ∧ H l = some (.lst xs) ∧ H b = some (.lst zs) ∧ xs.length + zs.length ≤ sizeLine ∧ ∀ p, H p = none → Q (.ref p) (upd H p (.lst (xs ++ zs)))
theorem op_cat : OpR X (binaryOp .Add) rCat := by
  intro pins s σ H x y v u Q I rx ry h
  obtain ⟨l, b, xs, zs, rfl, rfl, hH, hB, hz, q⟩ := h
  cases rx
  cases ry
  obtain ⟨z, its, n, r, hl, e⟩ := I.lstM hH
  obtain ⟨z2, its2, n2, r2, hl2, e2⟩ := I.lstM hB
  refine PySem.P.add_list e e2 ?_ (by rw [List.size_toArray, List.size_toArray]; omega)
  have ea : its.toArray ++ its2.toArray = (its ++ its2).toArray := by simp
  rw [ea]
  exact ⟨.ref _, _, I.lnew (t' := s.toks) (r.append r2) (by rw [List.length_append]; omega), rfl, q _ I.fresh⟩
theorem len_rep {α : Type} (xs : List α) (k : Nat) : (List.replicate k xs).flatten.length = k * xs.length := by
  induction k with
  | zero => simp
  | succ k ih => rw [List.replicate_succ, List.flatten_cons, List.length_append, ih, Nat.succ_mul, Nat.add_comm]
end
section
variable {prog : Program} {w : World} {A : Around} {E : Value → Shared → Prop} {s : Shared}
end
section
variable {X : Cx}
end
end L2
namespace Att
open PySem PySem.W PySem.Calls PyProof.Rows
theorem ints_of_wellAll {P : Params} {h : Heap} : ∀ (ns : List Int) (vs : List Value), WellAll P h vs (ns.map WData.int) → IntsAre vs ns := by
  intro ns
  induction ns with
  | nil =>
    intro vs w
    rw [List.map_nil] at w
    cases w
    exact .nil
  | cons n ns ih =>
    intro vs w
    rw [List.map_cons] at w
    cases w with
    | cons a b =>
      cases a
      exact .cons _ _ (ih _ b)
theorem script_of {l : OpenLaw} {n : Nat} (hn : l.most = some n) {P : Params} {h : Heap} {args : List WData} {vals : List Value}
    (hpre : l.row.toRowW.claim.pre args = true) (hwl : WellAll P h vals args) :
    ∃ a vs ns, vals = [Value.ref a] ∧ args = [WData.list (ns.map WData.int)] ∧ h.get? a = some { cls := .type "list", data := .seq vs.toArray } ∧ IntsAre vs ns ∧ ns.length ≤ n := by
  have hsh : WShape.hasAll [] args [.list .int] = true := (pre_splitW hpre).1
  have hc : l.pre.holds [] { args := args } = true := (pre_splitW hpre).2
  obtain ⟨d, r, rfl, h1, h2⟩ := hasAllW_cons hsh
  obtain rfl := hasAllW_nil h2
  obtain ⟨xs, rfl, h3⟩ := hasW_list h1
  obtain ⟨ns, rfl⟩ := items_int h3
  have hlen : ns.length ≤ n := by
    unfold OpenLaw.pre at hc
    have h4 : (WTm.not (.lt (.lit (.int (n : Int))) (.len (.arg 0)))).holds [] { args := [.list (ns.map .int)] } = true := by
      have h4 := (holds_andW hc).1
      rw [hn] at h4
      exact h4
    have h5 := condW_of h4 (w_not (w_lt w_lit (w_len_list (w_arg rfl))))
    rw [List.length_map] at h5
    refine Nat.le_of_not_lt fun q => ?_
    have q' : (n : Int) < ((ns.length : Nat) : Int) := by omega
    first
      | (rw [decide_eq_true q'] at h5; exact absurd h5 (by decide))
      | (simp at h5; omega)
  cases hwl with
  | cons w1 w2 =>
    cases w2
    cases w1 with
    | list ho hall => exact ⟨_, _, ns, rfl, rfl, ho, ints_of_wellAll ns _ hall, hlen⟩
theorem post_true (l : OpenLaw) (args : List WData) : l.row.toRowW.claim.post args (.bool true) args = true :=
  postW_of (r := l.row.toRowW) (X := (true == true))
    (show WShape.has [] (.bool true) .bool = true by first | rfl | decide | simp [WShape.has, WShape.arms, WShape.armsAll])
    (show (WTm.eq .res (.lit (.bool true))).value [] { args := args, res := some (.bool true), after := args } = some (.bool (true == true)) from w_eq_bool (w_res rfl) w_lit) rfl
theorem attach_call {l : OpenLaw} {n : Nat} {q : Program} {loose : List Str} {XP : (Str → Option Value) → Heap → Prop} {YP : World → Heap → Prop} {d : DefRec}
    (hn : l.most = some n) (hdf : d.params.defaults = [])
    (call : ∀ (w : World) (s₀ s₁ : Shared) (mg mb : Str → Option Value) (fa : Addr) (o : Obj) (pm cd doc : Value) (a : Addr) (vs : List Value) (ns : List Int),
      Ground q loose [] XP w s₀ mg mb s₁.heap → YP w s₁.heap →
      s₁.heap.get? fa = some o → o.data = .func (docDef d.name d.params d.body d.scope pm cd doc) → s₁.heap.CodeRec cd d.name → mg d.name = some (.ref fa) →
      s₁.heap.get? a = some { cls := .type "list", data := .seq vs.toArray } → IntsAre vs ns → ns.length ≤ n → s₁.gens = #[] →
      codeAny (model l.prog w) callerA (.call (.ref fa) ⟨[.ref a], []⟩) (fun r s' => r = .ok (.ret (.bool true)) ∧ OldK s₁.heap s'.heap ∧ s'.os = s₁.os ∧ AllBare s'.gens) s₁) :
    WalkO q loose XP YP l.row.toRowW d [] (fun f vs => PySem.call f vs) := by
  intro w s₀ s₁ mg mb G Y fa o pm cd doc dV kV ho hd hcd hD hmg hg args vals as hpre hlay hrd hwl hlo
  obtain rfl : dV = .none := Dflts.none hD hdf
  obtain rfl : kV = .none := Dflts.noKw hD
  obtain ⟨a, vs, ns, rfl, rfl, hobj, hints, hlen⟩ := script_of hn hpre hwl
  refine enter_call (codeAny_mono (call w s₀ s₁ mg mb fa o pm cd doc a vs ns G Y ho (fd_plain hd) hcd hmg hobj hints hlen hg) fun r s' hq => ?_)
  obtain ⟨rfl, h2, h3, h4⟩ := hq
  exact ⟨.inl ⟨.bool true, .bool true, [], rfl, fun _ => rfl, .bool true, post_true l _, fun _ => ⟨List.Pairwise.nil, fun _ hm => (nomatch hm)⟩⟩, h2, h3, h4⟩
section
variable {prog : Program} {w : World} {A : Around} {E : Value → Shared → Prop} {s : Shared} {K : Frag}
end
end Att
namespace L2
open PySem PySem.Spec PyProof.Rows
theorem vals_ints : ∀ {vs : List Value} {ns : List Int}, IntsAre vs ns → Vals (ns.map V.int) vs
  | _, _, .nil => .nil
  | _, _, .cons n t h => .cons ⟨t, rfl⟩ (vals_ints h)
def Only (H : Hp) : Prop := ∀ b, H b = none ∨ ∃ o xs, H b = some (.frz o (.lst xs))
theorem law_call {P : Program} {w : World} {K : PySem.W.Frag} {mg mb : Str → Option Value} {CX : CXT} {k : Nat} {fa a : Addr} {fd : FuncData} {x : Str} {sp : Sp} {s₁ : Shared} {vs : List Value} {ns : List Int}
    (KX : K.In s₁.heap) (hns : s₁.heap.Ns mainGlobals mg) (hb : s₁.heap.Ns builtinsNs mb) (hbb : ∀ x : Str, x ≠ "__name__" → mb x = bootBuiltins x) (hlim : s₁.heap.NoLimit) (hg : s₁.gens = #[])
    (ha : s₁.heap.get? a = some { cls := .type "list", data := .seq vs.toArray }) (hi : IntsAre vs ns) (hl : ns.length ≤ sizeLine) (hr : Room k callerA)
    (F : ∀ base : Heap, K.In base → base.Ns mainGlobals mg → FnOk P w K mg base CX k fa fd [x] sp) (hbind : ∀ (s : Shared) (u : Value), BindsTo s fd ⟨[u], []⟩ [(x, u)])
    (hsp : ∀ H : Hp, Only H → SqL K H a (ns.map V.int) → sp [.ref a] H (fun v _ => v = .bl true) fun _ _ _ => False)
    (hCX : ∀ H e s', CX [] H s₁ (fun _ _ _ => False) e s' → False) :
    codeAny (model P w) callerA (.call (.ref fa) ⟨[.ref a], []⟩) (fun r s' => r = .ok (.ret (.bool true)) ∧ OldK s₁.heap s'.heap ∧ s'.os = s₁.os ∧ AllBare s'.gens) s₁ := by
  have rv := vals_ints hi
  have lenV := hi.length
  have core : ∀ H : Hp, Only H → SqL K H a (ns.map V.int) → HOk P w H s₁.heap → (∀ b, H b ≠ none → b = a) → (H a ≠ none → K.lookup a = none) →
      codeAny (model P w) callerA (.call (.ref fa) ⟨[.ref a], []⟩) (fun r s' => r = .ok (.ret (.bool true)) ∧ OldK s₁.heap s'.heap ∧ s'.os = s₁.os ∧ AllBare s'.gens) s₁ := by
    intro H hO hS hok hA hK
    have base_of : ∀ {b : Addr} {o : Obj}, s₁.heap.get? b = some o → H b = none → (hidT s₁.heap H).get? b = some o := fun e n => hidT_get e n
    have noA : ∀ {b : Addr} {o : Obj} {es : Array DictEntry} {ep : Nat}, s₁.heap.get? b = some o → o.data = .dict es ep → H b = none := fun {b o es ep} e d => by
      cases q : H b with
      | none => rfl
      | some u =>
        have e' : b = a := hA b (by rw [q]; simp)
        subst e'
        rw [ha] at e; cases e
        have d' : Data.seq vs.toArray _ = Data.dict es ep := d
        cases d'
    have nsK : ∀ {b : Addr} {m : Str → Option Value}, s₁.heap.Ns b m → (hidT s₁.heap H).Ns b m := fun {b m} ⟨o, es, ep, e, d, r⟩ => ⟨o, es, ep, base_of e (noA e d), d, r⟩
    have hKb : K.In (hidT s₁.heap H) := fun b o e => base_of (KX b o e) (by
      cases q : H b with
      | none => rfl
      | some u =>
        have e' : b = a := hA b (by rw [q]; simp)
        subst e'
        rw [hK (by rw [q]; simp)] at e; cases e)
    have hM : Mod K mg (hidT s₁.heap H) := ⟨hKb, nsK hns, ⟨mb, nsK hb, hbb⟩, let ⟨mc, h1, h2⟩ := hlim; ⟨mc, nsK h1, h2⟩⟩
    have e0 : Env0 P w K mg (hidT s₁.heap H) callerA [] s₁ H := ⟨rfl, hM, fun b o e => of_hidT e, Nat.le_of_eq (hidT_size _ _), trivial, fun b hb => absurd (show b ∈ ([] : List Addr) from hb) (by simp), hok, .of_eq hg⟩
    refine codeAny_mono ((F _ hKb (nsK hns)).run callerA [] s₁ H ⟨[.ref a], []⟩ [.ref a] [.ref a] _ _ hr e0 (hbind s₁ (.ref a)) (.cons rfl .nil) (hsp H hO hS)) fun r s' h => ?_
    cases r with
    | error e => exact (hCX H e s' h).elim
    | ok fl =>
      cases fl with
      | next => exact False.elim h
      | brk => exact False.elim h
      | cont => exact False.elim h
      | ret u =>
        obtain ⟨v, H', os, bare, un, hok', r', q⟩ := h
        have q' : v = .bl true := q
        subst q'
        obtain rfl : u = Value.bool true := r'
        refine ⟨rfl, OldK.of_keep fun b o e => ?_, os, bare⟩
        cases q : H b with
        | none => exact un.keep b o e q (by intro z; exact absurd (show b ∈ ([] : List Addr) from z) (by simp)) (by simp)
        | some u =>
          rcases hO b with z | ⟨ob, xs, z⟩
          · rw [q] at z; cases z
          · have z2 := un.frzs b ob _ z
            obtain ⟨e1, _⟩ := hok b _ z
            obtain ⟨e2, _⟩ := hok' b _ z2
            rw [e] at e1; cases e1
            exact e2
  cases hk : K.lookup a with
  | some o =>
    have e := KX a o hk
    rw [ha] at e
    cases e
    refine core (fun _ => none) (fun _ => .inl rfl) (.inr ⟨_, vs.toArray, _, hk, rfl, rfl, rfl, by rw [List.size_toArray, lenV]; exact hl, by simpa using rv⟩) (fun b u z => by have z' : (none : Option HO) = some u := z; cases z') (fun b z => absurd rfl z) fun z => absurd rfl z
  | none =>
    refine core (fun b => if b = a then some (.frz { cls := .type "list", data := .seq vs.toArray } (.lst (ns.map V.int))) else none) (fun b => ?_) (.inl (.inr ⟨{ cls := .type "list", data := .seq vs.toArray }, if_pos rfl⟩)) (fun b u z => ?_) (fun b z => ?_) fun _ => hk
    · by_cases hb : b = a
      · exact .inr ⟨_, _, if_pos hb⟩
      · exact .inl (if_neg hb)
    · by_cases hb : b = a
      · have z' := (if_pos hb).symm.trans z
        cases z'
        subst hb
        exact ⟨ha, by rw [List.length_map]; exact hl, vs, _, rv, ha⟩
      · have z' := (if_neg hb).symm.trans z
        cases z'
    · by_cases hb : b = a
      · exact hb
      · exact absurd (if_neg hb) z
end L2
namespace L2
open PySem PySem.Spec PyProof.Rows
theorem walk_of {l : PySem.W.OpenLaw} {n k : Nat} {q : Program} {loose : List Str} {XP : (Str → Option Value) → Heap → Prop} {YP : World → Heap → Prop} {d : DefRec} {K : Params → PySem.W.Frag} {CX : World → CXT} {sp : World → Sp} {x : Str}
    (hn : l.most = some n) (hn2 : n ≤ sizeLine) (hdf : d.params.defaults = []) (hr : Room k callerA)
    (hY : ∀ (w : World) (h : Heap), YP w h → (K w.params).In h)
    (F : ∀ (w : World) (mg : Str → Option Value) (fa : Addr) (h : Heap), (K w.params).In h → h.Ns mainGlobals mg → mg d.name = some (.ref fa) →
      ∃ fd : FuncData, (∀ (s : Shared) (u : Value), BindsTo s fd ⟨[u], []⟩ [(x, u)]) ∧
        ∀ base : Heap, (K w.params).In base → base.Ns mainGlobals mg → FnOk l.prog w (K w.params) mg base (CX w) k fa fd [x] (sp w))
    (hsp : ∀ (w : World) (H : Hp) (a : Addr) (ns : List Int), ns.length ≤ n → Only H → SqL (K w.params) H a (ns.map V.int) → sp w [.ref a] H (fun v _ => v = .bl true) fun _ _ _ => False)
    (hCX : ∀ (w : World) (H : Hp) (s : Shared) (e : Value) (s' : Shared), CX w [] H s (fun _ _ _ => False) e s' → False) :
    PySem.W.WalkO q loose XP YP l.row.toRowW d [] (fun f vs => PySem.call f vs) := by
  refine Att.attach_call hn hdf fun w s₀ s₁ mg mb fa o pm cd doc a vs ns G Y ho hd hcd hmg hobj hints hlen hg => ?_
  have KX := hY w _ Y
  obtain ⟨fd, hb, hF⟩ := F w mg fa _ KX G.T.g hmg
  exact law_call KX G.T.g G.T.b G.T.builtins G.T.nolimit hg hobj hints (Nat.le_trans hlen hn2) hr hF hb (fun H hO hS => hsp w H a ns hlen hO hS) fun H e s' => hCX w H s₁ e s'
end L2
namespace L2
open PySem PySem.Spec PyProof.Rows
def defArgs (s : Stmt) : Arguments := match s with
  | .FunctionDef _ a _ _ _ _ _ _ _ _ => a
  | _ => { posonlyargs := [], args := [], vararg := none, kwonlyargs := [], kw_defaults := [], kwarg := none, defaults := [] }
def defBody (s : Stmt) : List Stmt := match s with
  | .FunctionDef _ _ b _ _ _ _ _ _ _ => b
  | _ => []
def defScope (s : Stmt) : Scope := match s with
  | .FunctionDef _ _ _ _ _ _ sc _ _ _ => sc
  | _ => { kind := .function, names := [], isGenerator := false, isCoroutine := false }
abbrev CX0 : CXT := fun _ _ _ _ _ _ => False
abbrev E0 : XK := fun _ _ _ => False
theorem pass0 {X : Cx} : Passes CX0 X E0 := fun _ _ _ _ _ _ _ h => h.elim
structure Fun (K : PySem.W.Frag) (x qual : Str) (st : Stmt) (f : Addr) (fd : FuncData) : Prop where
  ex : ∃ (oc : Value) (od : Option Addr) (kV doc pm : Value) (an : Option Addr) (cdv ct : Value) (osl : Array (Option Value)),
    fd = PySem.W.fnOf x qual (defArgs st) (defBody st) (defScope st) .none kV doc pm an cdv ct ∧ K.lookup f = some ⟨oc, od, .func fd, osl⟩ ∧ PySem.W.codeIn K cdv qual = true
  kp : PySem.W.keepIn K (.ref f) = true
section
variable {P : Program} {w : World} {K : PySem.W.Frag} {mg : Str → Option Value} {base : Heap}
theorem Fun.ok {x qual : Str} {st : Stmt} {f : Addr} {fd : FuncData} {N ps : List Str} {k : Nat} {sp : Sp} (F : Fun K x qual st f fd) (S : FnScope N ps (defScope st)) (len : ∀ vs H Q E, sp vs H Q E → vs.length = ps.length)
    (hbody : ∀ (cdv : Value) (A : Around) (outer : List Env) (s : Shared) (H : Hp) (vs : List V) (Q : VK) (E : XK), Room k (A.deeper (envOfC qual (defScope st) s.heap.objs.size f cdv)) → sp vs H Q E →
      ∃ t, PSs (cxOf CX0 P w K mg base N qual (defScope st) f cdv A outer s H E).nox (defBody st) t ∧ t { nx := fun _ H' => Q .non H', rt := Q } (start N vs) H) : FnOk P w K mg base CX0 (k + 1) f fd ps sp := by
  obtain ⟨oc, od, kV, doc, pm, an, cdv, ct, osl, rfl, lk, hcd⟩ := F.ex
  refine fn_of lk hcd S len fun A outer s H vs Q E hr hsp => ?_
  obtain ⟨t, h, q⟩ := hbody cdv A outer s H vs Q E hr hsp
  exact ⟨t, h.nox, q⟩
theorem Fun.binds {x qual : Str} {st : Stmt} {f : Addr} {fd : FuncData} {ps : List Str} (F : Fun K x qual st f fd)
    (h : ∀ (kV doc pm : Value) (an : Option Addr) (cdv ct : Value) (us : List Value), us.length = ps.length → bindArgs (PySem.W.fnOf x qual (defArgs st) (defBody st) (defScope st) .none kV doc pm an cdv ct) ⟨us, []⟩ = pure (ps.zip us)) : Binds K fd ps [] := by
  obtain ⟨oc, od, kV, doc, pm, an, cdv, ct, osl, rfl, lk, hcd⟩ := F.ex
  exact .all (h kV doc pm an cdv ct)
theorem fun_mk {x qual : Str} {st : Stmt} {f : Addr} {oc : Value} {od an : Option Addr} {osl : Array (Option Value)} {kV doc pm cdv ct : Value} (l : K.lookup f = some ⟨oc, od, .func (PySem.W.fnOf x qual (defArgs st) (defBody st) (defScope st) .none kV doc pm an cdv ct), osl⟩)
    (c : PySem.W.codeIn K cdv qual = true) (k : PySem.W.keepIn K (.ref f) = true) : Fun K x qual st f (PySem.W.fnOf x qual (defArgs st) (defBody st) (defScope st) .none kV doc pm an cdv ct) := ⟨⟨oc, od, kV, doc, pm, an, cdv, ct, osl, rfl, l, c⟩, k⟩
end
section
variable {X : Cx}
end
theorem iteF {A B : Prop} (h : B) : if false = true then A else B := by
  rw [if_neg Bool.false_ne_true]
  exact h
theorem iteT {A B : Prop} (h : A) : if true = true then A else B := by
  rw [if_pos rfl]
  exact h
def Same (H H' : Hp) : Prop := ∀ b o, H b = some o → H' b = some o
theorem Same.refl (H : Hp) : Same H H := fun _ _ h => h
theorem Same.trans {H H1 H2 : Hp} (a : Same H H1) (b : Same H1 H2) : Same H H2 := fun c o h => b c o (a c o h)
theorem Same.free {H H' : Hp} (e : Same H H') {l : Addr} (h : H' l = Option.none) : H l = Option.none := by
  cases q : H l with
  | none => rfl
  | some o =>
    rw [e l o q] at h
    cases h
theorem Same.seq {K : PySem.W.Frag} {H H' : Hp} {a : Addr} {xs : List V} (e : Same H H') (h : SqL K H a xs) : SqL K H' a xs := by
  rcases h with (h | ⟨o, h⟩) | h
  · exact .inl (.inl (e _ _ h))
  · exact .inl (.inr ⟨o, e _ _ h⟩)
  · exact .inr h
end L2
set_option Elab.async false
set_option maxHeartbeats 4000000
namespace L2
open PySem PySem.Spec PyProof.Rows
section
variable {κ : Type} [DecidableEq κ]
def valV (kvs : List (κ × V)) (k : κ) : Option V := (kvs.find? fun kv => decide (kv.1 = k)).map (·.2)
def putK (kvs : List (κ × V)) (k : κ) (v : V) : List (κ × V) :=
  if (kvs.any fun kv => decide (kv.1 = k)) = true then kvs.map (fun kv => if kv.1 = k then (kv.1, v) else kv) else kvs ++ [(k, v)]
def dropK (kvs : List (κ × V)) (k : κ) : List (κ × V) := kvs.filter fun kv => decide (kv.1 ≠ k)
theorem valV_pos {p : κ × V} {r : List (κ × V)} {k : κ} (e : p.1 = k) : valV (p :: r) k = some p.2 := by simp [valV, List.find?_cons, e]
theorem valV_neg {p : κ × V} {r : List (κ × V)} {k : κ} (e : ¬ p.1 = k) : valV (p :: r) k = valV r k := by simp [valV, List.find?_cons, e]
theorem valV_any (k : κ) : ∀ kvs : List (κ × V), (kvs.any fun kv => decide (kv.1 = k)) = (valV kvs k).isSome
  | [] => rfl
  | p :: r => by
    rw [List.any_cons]
    by_cases e : p.1 = k
    · simp only [valV_pos e, decide_eq_true e, Bool.true_or, Option.isSome_some]
    · rw [valV_neg e, decide_eq_false e, Bool.false_or]; exact valV_any k r
theorem length_putK (kvs : List (κ × V)) (k : κ) (v : V) : (putK kvs k v).length ≤ kvs.length + 1 := by
  unfold putK
  split
  · rw [List.length_map]; omega
  · rw [List.length_append, List.length_cons, List.length_nil]; omega
theorem RelO.isSome_eq {o : Option V} {u : Option Value} (r : RelO o u) : o.isSome = u.isSome := by
  cases o with
  | none => cases u with
    | none => rfl
    | some _ => exact (show False from r).elim
  | some _ => cases u with
    | none => exact (show False from r).elim
    | some _ => rfl
theorem RelO.getD {o : Option V} {u : Option Value} {d : V} {d' : Value} (r : RelO o u) (rd : RelV d d') : RelV (o.getD d) (u.getD d') := by
  cases o with
  | none => cases u with
    | none => exact rd
    | some _ => exact (show False from r).elim
  | some _ => cases u with
    | none => exact (show False from r).elim
    | some _ => exact r
theorem KV.val {kvs : List (κ × V)} {vs : List (κ × Value)} (r : KV kvs vs) (k : κ) : RelO (valV kvs k) (valueAt vs k) := by
  unfold KV at r
  induction r with
  | nil => exact True.intro
  | @cons p q ps qs h t ih =>
    obtain ⟨h1, h2⟩ := h
    by_cases e : p.1 = k
    · have e' : q.1 = k := h1.symm.trans e
      have b : valueAt (q :: qs) k = some q.2 := by simp [valueAt, List.find?_cons, e']
      rw [valV_pos e, b]; exact h2
    · have e' : ¬ q.1 = k := fun z => e (h1.trans z)
      have b : valueAt (q :: qs) k = valueAt qs k := by simp [valueAt, List.find?_cons, e']
      rw [valV_neg e, b]; exact ih
theorem KV.any {kvs : List (κ × V)} {vs : List (κ × Value)} (r : KV kvs vs) (k : κ) : (kvs.any fun kv => decide (kv.1 = k)) = vs.any fun kv => decide (kv.1 = k) := by
  unfold KV at r
  induction r with
  | nil => rfl
  | cons h t ih => rw [List.any_cons, List.any_cons, ih, h.1]
theorem KV.repl {kvs : List (κ × V)} {vs : List (κ × Value)} (r : KV kvs vs) (k : κ) {y : V} {u : Value} (ry : RelV y u) :
    KV (kvs.map fun kv => if kv.1 = k then (kv.1, y) else kv) (vs.map fun kv => if kv.1 = k then (kv.1, u) else kv) := by
  unfold KV at r ⊢
  induction r with
  | nil => exact .nil
  | @cons p q ps qs h t ih =>
    rw [List.map_cons, List.map_cons]
    refine .cons ?_ ih
    obtain ⟨h1, h2⟩ := h
    by_cases e : p.1 = k
    · rw [if_pos e, if_pos (h1.symm.trans e)]; exact ⟨h1, ry⟩
    · rw [if_neg e, if_neg (fun z => e (h1.trans z))]; exact ⟨h1, h2⟩
theorem KV.put {kvs : List (κ × V)} {vs : List (κ × Value)} (r : KV kvs vs) (k : κ) {y : V} {u : Value} (ry : RelV y u) : KV (putK kvs k y) (stored vs k u) := by
  unfold putK stored
  rw [r.any k]
  by_cases e : (vs.any fun kv => decide (kv.1 = k)) = true
  · rw [if_pos e, if_pos e]; exact r.repl k ry
  · rw [if_neg e, if_neg e]; exact Paired.snoc r ⟨rfl, ry⟩
theorem KV.drop {kvs : List (κ × V)} {vs : List (κ × Value)} (r : KV kvs vs) (k : κ) : KV (dropK kvs k) (without vs k) := by
  unfold KV at r ⊢
  unfold dropK without
  induction r with
  | nil => exact .nil
  | @cons p q ps qs h t ih =>
    obtain ⟨h1, h2⟩ := h
    rw [List.filter_cons, List.filter_cons]
    by_cases e : p.1 = k
    · have a : ¬ decide (p.1 ≠ k) = true := by simp [e]
      have b : ¬ decide (q.1 ≠ k) = true := by simp [h1.symm.trans e]
      rw [if_neg a, if_neg b]; exact ih
    · have e' : ¬ q.1 = k := fun z => e (h1.trans z)
      have a : decide (p.1 ≠ k) = true := by simp [e]
      have b : decide (q.1 ≠ k) = true := by simp [e']
      rw [if_pos a, if_pos b]; exact .cons ⟨h1, h2⟩ ih
theorem KV.length {kvs : List (κ × V)} {vs : List (κ × Value)} (r : KV kvs vs) : kvs.length = vs.length := Paired.length r
end
theorem kV_is {P : Program} {w : World} {k : Key} {u : Value} (r : RelV (kV k) u) : (mixKind P w).is k u = true := by
  cases k with
  | inl i => obtain ⟨t, e⟩ := (show ∃ t, u = Value.int i t from r); subst e; exact mixKind_int P w i t
  | inr x => obtain ⟨t, e⟩ := (show ∃ t, u = Value.str x t from r); subst e; exact mixKind_str P w x t
theorem items_are {P : Program} {w : World} : ∀ {ks : List Key} {us : List Value}, Vals (ks.map kV) us → ItemsAre (mixKind P w) ks us
  | [], _, r => by rw [List.map_nil] at r; cases r; exact .nil
  | k :: ks, _, r => by
    rw [List.map_cons] at r
    cases r with
    | cons h t => exact .cons (kV_is h) (items_are t)
abbrev KT (H : Hp) : List (List Key × V) → List (List Key × Addr × Value) → Prop := Paired fun p q => p.1 = q.1 ∧ H q.2.1 = some (.tup (p.1.map kV)) ∧ RelV p.2 q.2.2
theorem KT.val {H : Hp} {kvs : List (List Key × V)} {xs : List (List Key × Addr × Value)} (r : KT H kvs xs) (k : List Key) : RelO (valV kvs k) ((atKey xs k).map (·.2)) := by
  induction r with
  | nil => exact True.intro
  | @cons p q ps qs h t ih =>
    obtain ⟨h1, _, h2⟩ := h
    by_cases e : p.1 = k
    · have e' : q.1 = k := h1.symm.trans e
      have b : atKey (q :: qs) k = some q.2 := by simp [atKey, List.find?_cons, e']
      rw [valV_pos e, b]; exact h2
    · have e' : ¬ q.1 = k := fun z => e (h1.trans z)
      have b : atKey (q :: qs) k = atKey qs k := by simp [atKey, List.find?_cons, e']
      rw [valV_neg e, b]; exact ih
theorem KT.repl {H : Hp} {kvs : List (List Key × V)} {xs : List (List Key × Addr × Value)} (r : KT H kvs xs) (k : List Key) {y : V} {u : Value} (ry : RelV y u) :
    KT H (kvs.map fun kv => if kv.1 = k then (kv.1, y) else kv) (xs.map (putAt k u)) := by
  induction r with
  | nil => exact .nil
  | @cons p q ps qs h t ih =>
    rw [List.map_cons, List.map_cons]
    refine .cons ?_ ih
    obtain ⟨h1, h2, h3⟩ := h
    unfold putAt
    by_cases e : p.1 = k
    · rw [if_pos e, if_pos (h1.symm.trans e)]; exact ⟨h1, h2, ry⟩
    · rw [if_neg e, if_neg (fun z => e (h1.trans z))]; exact ⟨h1, h2, h3⟩
theorem KT.put {H : Hp} {kvs : List (List Key × V)} {xs : List (List Key × Addr × Value)} (r : KT H kvs xs) (k : List Key) {b : Addr} {y : V} {u : Value} (hb : H b = some (.tup (k.map kV))) (ry : RelV y u) :
    KT H (putK kvs k y) (storedH xs k b u) := by
  have e : (kvs.any fun kv => decide (kv.1 = k)) = (atKey xs k).isSome := by
    rw [valV_any, (r.val k).isSome_eq, Option.isSome_map]
  unfold putK storedH
  rw [e]
  by_cases q : (atKey xs k).isSome = true
  · rw [if_pos q, if_pos q]; exact r.repl k ry
  · rw [if_neg q, if_neg q]; exact Paired.snoc r ⟨rfl, hb, ry⟩
theorem KT.keeps {H H' : Hp} {kvs : List (List Key × V)} {xs : List (List Key × Addr × Value)} (r : KT H kvs xs) (ht : ∀ b ys, H b = some (.tup ys) → H' b = some (.tup ys)) : KT H' kvs xs :=
  Paired.mapP r fun _ _ z => ⟨z.1, ht _ _ z.2.1, z.2.2⟩
section
variable {P : Program} {w : World} {H : Hp} {h : Heap} {a : Addr}
theorem rd_of {u : HO} (ok : HOk P w H h) (e : Rd H a u) : ObjOk P w H h a u := e.ok ok
theorem dk_rd {kvs : List (Key × V)} (ok : HOk P w H h) (e : Rd H a (.dK kvs)) : kvs.length ≤ sizeLine ∧ (a == sysModules) = false ∧ ∃ vs, KV kvs vs ∧ h.DictOf (mixKind P w) a vs :=
  show ObjOk P w H h a (.dK kvs) from rd_of ok e
theorem dk_of {kvs : List (Key × V)} (ok : HOk P w H h) (e : H a = some (.dK kvs)) : kvs.length ≤ sizeLine ∧ (a == sysModules) = false ∧ ∃ vs, KV kvs vs ∧ h.DictOf (mixKind P w) a vs := dk_rd ok (.inl e)
theorem key_of {ks : List Key} (ok : HOk P w H h) (e : H a = some (.tup (ks.map kV))) : (tupleKind (mixKind P w)).is h ks a := by
  obtain ⟨_, its, r, o, h1, h2, n, h3⟩ := (show ObjOk P w H h a (.tup (ks.map kV)) from ok a _ e)
  exact ⟨o, its.toArray, n, h1, h2, h3, by simpa using items_are r⟩
theorem dt_rd {kvs : List (List Key × V)} (ok : HOk P w H h) (e : Rd H a (.dT kvs)) : kvs.length ≤ sizeLine ∧ (a == sysModules) = false ∧
    ∃ xs, KT H kvs xs ∧ h.DictOfH (tupleKind (mixKind P w)) a xs := by
  obtain ⟨z, y, xs, r, o, es, ep, h1, h2, h3, h4, h5⟩ := (show ObjOk P w H h a (.dT kvs) from rd_of ok e)
  refine ⟨z, y, xs, r, o, es, ep, h1, h2, h3, h4, fun x hx => ?_, h5⟩
  have all : ∀ {l : List (List Key × V)} {m : List (List Key × Addr × Value)}, KT H l m → ∀ x ∈ m, (tupleKind (mixKind P w)).is h x.1 x.2.1 := by
    intro l m q
    induction q with
    | nil => intro x hx; exact nomatch hx
    | @cons p q ps qs hq t ih =>
      intro x hx
      rcases List.mem_cons.mp hx with e | hx
      · subst e
        exact key_of ok (by rw [← hq.1]; exact hq.2.1)
      · exact ih x hx
  exact all r x hx
theorem dt_of {kvs : List (List Key × V)} (ok : HOk P w H h) (e : H a = some (.dT kvs)) : kvs.length ≤ sizeLine ∧ (a == sysModules) = false ∧
    ∃ xs, KT H kvs xs ∧ h.DictOfH (tupleKind (mixKind P w)) a xs := dt_rd ok (.inl e)
end
def DGet (H : Hp) (a : Addr) (y : V) (r : Option V) : Prop :=
  (∃ kvs k, Rd H a (.dK kvs) ∧ y = kV k ∧ r = valV kvs k) ∨ ∃ kvs k b, Rd H a (.dT kvs) ∧ y = .ref b ∧ H b = some (.tup (k.map kV)) ∧ r = valV kvs k
def DPut (H : Hp) (a : Addr) (y v : V) (H' : Hp) : Prop :=
  (∃ kvs k, H a = some (.dK kvs) ∧ y = kV k ∧ kvs.length < sizeLine ∧ H' = upd H a (.dK (putK kvs k v))) ∨
  ∃ kvs k b, H a = some (.dT kvs) ∧ y = .ref b ∧ H b = some (.tup (k.map kV)) ∧ kvs.length < sizeLine ∧ H' = upd H a (.dT (putK kvs k v))
theorem DGet.k {H : Hp} {a : Addr} {kvs : List (Key × V)} {k : Key} (e : H a = some (.dK kvs)) : DGet H a (kV k) (valV kvs k) := .inl ⟨kvs, k, .inl e, rfl, rfl⟩
theorem DGet.t {H : Hp} {a b : Addr} {kvs : List (List Key × V)} {k : List Key} (e : H a = some (.dT kvs)) (eb : H b = some (.tup (k.map kV))) : DGet H a (.ref b) (valV kvs k) := .inr ⟨kvs, k, b, .inl e, rfl, eb, rfl⟩
theorem DPut.k {H : Hp} {a : Addr} {kvs : List (Key × V)} {k : Key} {v : V} (e : H a = some (.dK kvs)) (hl : kvs.length < sizeLine) : DPut H a (kV k) v (upd H a (.dK (putK kvs k v))) := .inl ⟨kvs, k, e, rfl, hl, rfl⟩
theorem DPut.t {H : Hp} {a b : Addr} {kvs : List (List Key × V)} {k : List Key} {v : V} (e : H a = some (.dT kvs)) (eb : H b = some (.tup (k.map kV))) (hl : kvs.length < sizeLine) :
    DPut H a (.ref b) v (upd H a (.dT (putK kvs k v))) := .inr ⟨kvs, k, b, e, rfl, eb, hl, rfl⟩
section
variable {X : Cx} {pins : List (Addr × Obj)} {σ : St} {H : Hp} {s : Shared} {a : Addr} {y v : V} {u r : Value} {o : Option V} {A : Around} {E : Value → Shared → Prop}
theorem Inv.big (I : Inv X pins σ H s) : sysModules < s.heap.objs.size := by
  have h : mainGlobals < s.heap.objs.size := (I.mod.glob.keeps I.bk).lt
  exact Nat.lt_trans (by decide) h
theorem d_getItem {Q : Value → Shared → Prop} (hu : A.units + 1 < cLine) (I : Inv X pins σ H s) (g : DGet H a y (some v)) (ry : RelV y u) (h : ∀ w' s', Inv X pins σ H s' → RelV v w' → Q w' s') :
    wpAny (model X.prog X.w) A (getItem (.ref a) u) Q E s := by
  rcases g with ⟨kvs, k, e, ey, l⟩ | ⟨kvs, k, b, e, ey, eb, l⟩
  · subst ey
    obtain ⟨z, hd, vs, rel, dd⟩ := dk_rd I.hok e
    obtain ⟨w', hw, rw'⟩ := RelO.some_of (v := v) (o := valueAt vs k) (by rw [l]; exact rel.val k)
    exact wpAny_getItem_of (kV_is ry) dd.mapOf hw (h w' _ (I.tok _) rw')
  · subst ey
    cases (show u = Value.ref b from ry)
    obtain ⟨z, hd, xs, rel, dd⟩ := dt_rd I.hok e
    obtain ⟨w', hw, rw'⟩ := RelO.some_of (v := v) (o := (atKey xs k).map (·.2)) (by rw [l]; exact rel.val k)
    obtain ⟨p, hp, hp2⟩ := Option.map_eq_some_iff.mp hw
    refine wpAny_getItem_heap (tupleKind_room_in1 hu) (key_of I.hok eb) dd hp ?_
    rw [hp2]
    exact h w' _ (I.tok _) rw'
theorem d_in {Q : Value → Shared → Prop} (hu : A.units + 1 < cLine) (I : Inv X pins σ H s) (g : DGet H a y o) (ry : RelV y u) (h : ∀ s', Inv X pins σ H s' → Q (.bool o.isSome) s') :
    wpAny (model X.prog X.w) A (compareOp .In u (.ref a)) Q E s := by
  rcases g with ⟨kvs, k, e, ey, l⟩ | ⟨kvs, k, b, e, ey, eb, l⟩
  · subst ey
    obtain ⟨z, hd, vs, rel, dd⟩ := dk_rd I.hok e
    refine wpAny_in_of (kV_is ry) hd dd.mapOf ?_
    rw [← (rel.val k).isSome_eq, ← l]
    exact h _ (I.tok _)
  · subst ey
    cases (show u = Value.ref b from ry)
    obtain ⟨z, hd, xs, rel, dd⟩ := dt_rd I.hok e
    refine wpAny_in_heap (tupleKind_room_in1 hu) (key_of I.hok eb) hd dd ?_
    have q := (rel.val k).isSome_eq
    rw [Option.isSome_map] at q
    rw [← q, ← l]
    exact h _ (I.tok _)
theorem d_notIn {Q : Value → Shared → Prop} (hu : A.units + 1 < cLine) (I : Inv X pins σ H s) (g : DGet H a y o) (ry : RelV y u) (h : ∀ s', Inv X pins σ H s' → Q (.bool (!o.isSome)) s') :
    wpAny (model X.prog X.w) A (compareOp .NotIn u (.ref a)) Q E s := by
  rcases g with ⟨kvs, k, e, ey, l⟩ | ⟨kvs, k, b, e, ey, eb, l⟩
  · subst ey
    obtain ⟨z, hd, vs, rel, dd⟩ := dk_rd I.hok e
    refine wpAny_notIn_of (kV_is ry) hd dd.mapOf ?_
    rw [← (rel.val k).isSome_eq, ← l]
    exact h _ (I.tok _)
  · subst ey
    cases (show u = Value.ref b from ry)
    obtain ⟨z, hd, xs, rel, dd⟩ := dt_rd I.hok e
    refine wpAny_notIn_heap (tupleKind_room_in1 hu) (key_of I.hok eb) hd dd ?_
    have q := (rel.val k).isSome_eq
    rw [Option.isSome_map] at q
    rw [← q, ← l]
    exact h _ (I.tok _)
theorem d_write {h' : Heap} {t' : Nat} {ob : HO} (I : Inv X pins σ H s) (mu : Mut (H a)) (hs : Heap.SameBut a s.heap h') (he : ∃ q, h'.get? a = some q) (new : ObjOk X.prog X.w (upd H a ob) h' a ob) :
    Inv X pins σ (upd H a ob) { s with heap := h', toks := t' } :=
  I.write (x := a) (e := a) mu (.inl rfl) (fun b q hb z => (hs.2 b hb).trans z) he new
theorem dk_new {P : Program} {w : World} {H' : Hp} {h' : Heap} {kvs : List (Key × V)} {vs : List (Key × Value)} (z : kvs.length ≤ sizeLine) (hd : (a == sysModules) = false) (rel : KV kvs vs) (dd : h'.DictOf (mixKind P w) a vs) :
    ObjOk P w H' h' a (.dK kvs) := ⟨z, hd, vs, rel, dd⟩
theorem d_setItem {H' : Hp} {Q : Unit → Shared → Prop} (hu : A.units + 1 < cLine) (I : Inv X pins σ H s) (g : DPut H a y v H') (ry : RelV y u) (rv : RelV v r) (h : ∀ s', Inv X pins σ H' s' → Q () s') :
    wpAny (model X.prog X.w) A (setItem (.ref a) u r) Q E s := by
  rcases g with ⟨kvs, k, e, ey, l, eH⟩ | ⟨kvs, k, b, e, ey, eb, l, eH⟩
  · subst ey eH
    obtain ⟨z, hd, vs, rel, dd⟩ := dk_of I.hok e
    have hz : vs.length ≤ sizeLine := by rw [← rel.length]; exact z
    have hl : (putK kvs k v).length ≤ sizeLine := by have := length_putK kvs k v; omega
    refine wpAny_setItem_pairs (hsz := hz) (kV_is ry) dd fun h' dd' hs => h _ ?_
    have he : ∃ q, h'.get? a = some q := let ⟨q, _, _, hq, _⟩ := dd'; ⟨q, hq⟩
    exact d_write I (by rw [e]; exact True.intro) hs he (dk_new hl hd (rel.put k rv) dd')
  · subst ey eH
    cases (show u = Value.ref b from ry)
    obtain ⟨z, hd, xs, rel, dd⟩ := dt_of I.hok e
    have hz : xs.length ≤ sizeLine := by rw [← Paired.length rel]; exact z
    have hl : (putK kvs k v).length ≤ sizeLine := by have := length_putK kvs k v; omega
    refine wpAny_setItem_heap (hsz := hz) (tupleKind_room_in1 hu) (key_of I.hok eb) dd fun h' dd' hs => h _ ?_
    obtain ⟨q, es, ep, hq, h2, h3, h4, _, h5⟩ := dd'
    refine d_write I (by rw [e]; exact True.intro) hs ⟨q, hq⟩ ⟨hl, hd, _, (rel.put k eb rv).keeps fun c ys ec => ?_, q, es, ep, hq, h2, h3, h4, h5⟩
    rw [upd_ne (ne_of ec e (fun z => nomatch z))]
    exact ec
end
section
variable {X : Cx} {pins : List (Addr × Obj)} {σ : St} {H : Hp} {s : Shared} {a : Addr} {kvs : List (Key × V)} {k : Key} {u : Value} {A : Around} {E : Value → Shared → Prop}
end
def NoSl (i : Expr) : Prop := ∀ ov iv, subscripted i false ov iv = operate [ov, iv] (getItem ov iv)
theorem subD_of {prog : Program} {w : World} {A : Around} {E : Value → Shared → Prop} {s : Shared} {env : Env} {value slice : Expr} {pos : Pos} {T id : String} {Q : Value → Shared → Prop}
    (hl : typeLookup (.type T) "__getitem__" = pure (some (.builtin id))) (hs : NoSl slice)
    (h : wpAny (model prog w) A (eval value env) (fun o s₁ => wpAny (model prog w) A (eval slice env) (fun i s₂ => s₂.TypeIs o T ∧ wpAny (model prog w) A (getItem o i) Q E s₂) E s₁) E s) :
    wpAny (model prog w) A (eval (.Subscript value slice pos) env) Q E s := by
  refine Subscript_ (wpAny_mono h (fun o s₁ h₁ => wpAny_mono h₁ (fun i s₂ h₂ => ?_) fun _ _ x => x) fun _ _ x => x)
  obtain ⟨hT, h₂⟩ := h₂
  unfold subscriptTail
  refine wpAny_bind ?_
  rw [getitemInPython_of_ne hT.not_modules]
  refine wpAny_bind (wpAny_specialOf hT hl ?_)
  have fin : wpAny (model prog w) A (subscripted slice false o i) (fun r s₃ => wpAny (model prog w) A (letTemporaryGo value o r >>= fun _ => pure r) Q E s₃) E s₂ := by
    rw [hs o i]
    exact wpAny_operating (wpAny_mono h₂ (fun r s₃ h₃ => wpAny_bind (wpAny_letTemporaryGo (wpAny_pure h₃))) fun _ _ x => x)
  first
    | exact wpAny_pure (wpAny_bind fin)
    | exact wpAny_bind (wpAny_pure (wpAny_bind fin))
    | exact wpAny_bind fin
theorem dict_typeIs {X : Cx} {pins : List (Addr × Obj)} {σ : St} {H : Hp} {s : Shared} {a : Addr} {y : V} {o : Option V} (I : Inv X pins σ H s) (g : DGet H a y o) : s.TypeIs (.ref a) "dict" := by
  rcases g with ⟨kvs, k, e, _, _⟩ | ⟨kvs, k, b, e, _, _, _⟩
  · obtain ⟨_, _, vs, _, dd⟩ := dk_rd I.hok e
    exact dd.typeIs
  · obtain ⟨_, _, xs, _, dd⟩ := dt_rd I.hok e
    exact dd.typeIs
def tDGet (td ty : TE) : TE := fun σ H Q => td σ H fun x H1 => ty σ H1 fun y H2 => ∃ a v, x = .ref a ∧ DGet H2 a y (some v) ∧ Q v H2
def sDPut (td ty tv : TE) : TS := fun D σ H => tv σ H fun v H1 => td σ H1 fun x H2 => ty σ H2 fun y H3 => ∃ a H4, x = .ref a ∧ DPut H3 a y v H4 ∧ D.nx σ H4
section
variable {X : Cx} {o i e value : Expr} {pos pos' tpos : Pos} {td ty tv : TE}
theorem pe_dget (hu : X.A.units + 1 < cLine) (ho : PE X o td) (hi : PE X i ty) (hs : NoSl i) : PE X (.Subscript o i pos) (tDGet td ty) := by
  intro pins s σ H Q I h
  refine subD_of PySem.F.slot_dict_getitem.lookup hs (thn (ho pins s σ H _ I h) fun u s1 ⟨x, H1, I1, rx, q1⟩ => thn (hi pins s1 σ H1 _ I1 q1) fun iv s2 ⟨y, H2, I2, ry, a, v, ex, g, q2⟩ => ?_)
  subst ex
  obtain rfl : u = Value.ref a := rx
  exact ⟨dict_typeIs I2 g, d_getItem hu I2 g ry fun w' s3 I3 rw' => ⟨v, H2, I3, rw', q2⟩⟩
theorem ps_dput (hu : X.A.units + 1 < cLine) (ho : PE X o td) (hi : PE X i ty) (hv : PE X value tv) (hs : swapsWith value (some (.Subscript o i pos')) pos.line X.env = pure false) :
    PS X (.Assign [.Subscript o i pos'] value pos) (sDPut td ty tv) := by
  intro pins s σ H D I h
  refine wpAny_Assign_Subscript (thn (hv pins s σ H _ I h) fun r s1 ⟨v, H1, I1, rv, q1⟩ => thn (ho pins s1 σ H1 _ I1 q1) fun u s2 ⟨x, H2, I2, rx, q2⟩ => thn (hi pins s2 σ H2 _ I2 q2) fun iv s3 ⟨y, H3, I3, ry, a, H4, ex, g, q3⟩ => ?_) hs
  subst ex
  obtain rfl : u = Value.ref a := rx
  exact d_setItem hu I3 g ry rv fun s4 I4 => ⟨σ, H4, I4, q3⟩
end
theorem dt_empty {P : Program} {w : World} {H : Hp} (h : Heap) (hb : sysModules < h.objs.size) : ObjOk P w H (h.push { cls := .type "dict", data := .dict #[] }) h.objs.size (.dT []) :=
  ⟨Nat.zero_le _, beq_eq_false_iff_ne.mpr (Ne.symm (Nat.ne_of_lt hb)), [], .nil, _, #[], 0, Heap.get?_push_size _ rfl, ⟨rfl, rfl, rfl⟩, rfl, rfl, List.nodup_nil⟩
def tDNewT : TE := fun _ H Q => ∀ p, H p = none → Q (.ref p) (upd H p (.dT []))
section
variable {X : Cx} {pos : Pos}
theorem pe_dnewT : PE X (.Dict [] [] pos) tDNewT := fun pins s σ H Q I h =>
  wpAny_Dict_empty ⟨.ref s.heap.objs.size, _, I.laid (a := s.heap.objs.size) (o := .dT []) (t' := s.toks) (fun _ _ q => Heap.get?_push_of_some _ q) (Nat.le_refl _) (dt_empty s.heap I.big), rfl, h _ (I.hok.fresh (Nat.le_refl _))⟩
end
structure M2 (X : Cx) (o : Expr) (m : Str) (apos : Pos) (e f : Expr) (cpos : Pos) : Prop where
  base : attributeBase o m X.env (eval o X.env) = eval o X.env
  few : ((backTo cpos (starEach [e, f] X.env)).all (fun x => !x.1) && (backToKw cpos (keywordEach [] X.env)).all (fun x => x.1.isSome)
    && decide (([e, f] : List Expr).length + ([] : List Keyword).length + (if ([] : List Keyword).isEmpty then 0 else 1) < 30)) = true
  line : (apos.endLine == cpos.line) = true
  trees : backTo cpos (starEach [e, f] X.env) = [(false, eval e X.env), (false, eval f X.env)]
def IsD (H : Hp) (a : Addr) : Prop := (∃ kvs, Rd H a (.dK kvs)) ∨ ∃ kvs, Rd H a (.dT kvs)
theorem isD_at {X : Cx} {pins : List (Addr × Obj)} {σ : St} {H : Hp} {s : Shared} {a : Addr} (I : Inv X pins σ H s) (d : IsD H a) :
    s.TypeIs (.ref a) "dict" ∧ (∀ b, Value.ref a = .ref b → ∃ ob, s.heap.get? b = some ob ∧ ob.dict = none) ∧ (a == sysModules) = false := by
  rcases d with ⟨kvs, e⟩ | ⟨kvs, e⟩
  · obtain ⟨_, hd, vs, _, dd⟩ := dk_rd I.hok e
    refine ⟨dd.typeIs, fun b q => ?_, hd⟩
    cases q
    obtain ⟨ob, _, _, h1, h2, _⟩ := dd
    exact ⟨ob, h1, h2.2.1⟩
  · obtain ⟨_, hd, xs, _, dd⟩ := dt_rd I.hok e
    refine ⟨dd.typeIs, fun b q => ?_, hd⟩
    cases q
    obtain ⟨ob, _, _, h1, h2, _⟩ := dd
    exact ⟨ob, h1, h2.2.1⟩
section
variable {X : Cx} {pins : List (Addr × Obj)} {σ : St} {H : Hp} {s : Shared} {a : Addr} {y d : V} {u r : Value} {o : Option V} {A : Around} {E : Value → Shared → Prop}
theorem d_get2 {Q : Value → Shared → Prop} (hu : A.units + 1 < cLine) (I : Inv X pins σ H s) (g : DGet H a y o) (ry : RelV y u) (rd : RelV d r) (h : ∀ w' s', Inv X pins σ H s' → RelV (o.getD d) w' → Q w' s') :
    wpAny (model X.prog X.w) A (call (.builtin "dict.get") [.ref a, u, r]) Q E s := by
  rcases g with ⟨kvs, k, e, ey, l⟩ | ⟨kvs, k, b, e, ey, eb, l⟩
  · subst ey
    obtain ⟨z, hd, vs, rel, dd⟩ := dk_rd I.hok e
    refine call_meetsIn PySem.F.slot_dict_get dd.typeIs PySem.F.entry_dict_get (PySem.F.args_dict_get_3 _ _ _) (meets_dict_get_default (mixKind X.prog X.w) a (kV_is ry) hd r) ⟨_, dd.mapOf, h _ _ (I.tok _) ?_⟩
    rw [l]
    exact (rel.val k).getD rd
  · subst ey
    cases (show u = Value.ref b from ry)
    obtain ⟨z, hd, xs, rel, dd⟩ := dt_rd I.hok e
    refine call_meetsIn PySem.F.slot_dict_get dd.typeIs PySem.F.entry_dict_get (PySem.F.args_dict_get_3 _ _ _) (meetsH_dict_get_default (tupleKind (mixKind X.prog X.w)) a b hd r) ⟨tupleKind_room_in1 hu, k, xs, key_of I.hok eb, dd, h _ _ (I.tok _) ?_⟩
    rw [l]
    exact (rel.val k).getD rd
end
def tDGet2 (td ty tx : TE) : TE := fun σ H Q => td σ H fun x H1 => ∃ a, x = .ref a ∧ IsD H1 a ∧ ty σ H1 fun y H2 => tx σ H2 fun z H3 => ∃ o, DGet H3 a y o ∧ Q (o.getD z) H3
section
variable {X : Cx} {o e f : Expr} {apos cpos : Pos} {td ty tx : TE}
theorem pe_dget2 (hu : X.A.units + 1 < cLine) (ho : PE X o td) (he : PE X e ty) (hf : PE X f tx) (m : M2 X o "get" apos e f cpos) : PE X (.Call (.Attribute o "get" apos) [e, f] [] cpos) (tDGet2 td ty tx) := by
  intro pins s σ H Q I h
  refine wpAny_Call_method m.base m.few m.line PySem.F.plainAttrs_dict PySem.F.slot_dict_get PySem.F.type_dict_get (thn (ho pins s σ H _ I h) fun u s1 ⟨x, H1, I1, rx, a, ex, d, q1⟩ => ?_)
  subst ex
  obtain rfl : u = Value.ref a := rx
  obtain ⟨t1, t2, _⟩ := isD_at I1 d
  refine ⟨t1, t2, ?_⟩
  rw [m.trees]
  refine Calls.callWith_builtin rfl (Calls.evalArgs_plain (Calls.spliced_cons (thn (he pins s1 σ H1 _ I1 q1) fun iv s2 ⟨y, H2, I2, ry, q2⟩ =>
    Calls.spliced_cons (thn (hf pins s2 σ H2 _ I2 q2) fun fv s3 ⟨z, H3, I3, rz, ov, g, q3⟩ => Calls.spliced_nil ?_))))
  exact d_get2 hu I3 g ry rz fun w' s4 I4 rw' => ⟨_, H3, I4, rw', q3⟩
end
section
variable {X : Cx} {pins : List (Addr × Obj)} {σ : St} {H : Hp} {s : Shared} {a : Addr} {kvs : List (Key × V)} {A : Around} {E : Value → Shared → Prop}
end
section
variable {X : Cx} {pins : List (Addr × Obj)} {σ : St} {H : Hp} {s : Shared} {a : Addr} {y : V} {u : Value} {A : Around} {E : Value → Shared → Prop}
end
end L2
namespace L2
open PySem PySem.Spec PyProof.Rows
section
variable {X : Cx}
end
section
variable {κ : Type} [DecidableEq κ]
end
end L2
set_option Elab.async false
set_option maxHeartbeats 4000000
namespace L3
abbrev St := L2.St
open PySem PySem.Spec PyProof.Rows L2
inductive D where
  | non | bl (b : Bool) | int (i : Int) | str (x : Str) | tup (xs : List D) | ref (n : Nat) | fn (a : Addr)
inductive Ob where
  | lst (xs : List D) | flst (xs : List D) | iset (f : Int → Bool) (n : Nat) | dct (kvs : List (Key × D)) | fdct (kvs : List (Key × D)) | tdct (kvs : List (List Key × D)) | ftdct (kvs : List (List Key × D)) | tset (ks : List (List Int)) | fnc (x : Str) | exc (c : Str)
def Ob.mut : Ob → Bool
  | .flst _ => false
  | .fnc _ => false
  | _ => true
abbrev Sto := List Ob
abbrev Lo := List (Option D)
mutual
inductive RD (ρ : List Addr) (H : Hp) : D → V → Prop where
  | non : RD ρ H .non .non
  | bl (b : Bool) : RD ρ H (.bl b) (.bl b)
  | int (i : Int) : RD ρ H (.int i) (.int i)
  | str (x : Str) : RD ρ H (.str x) (.str x)
  | tup {xs : List D} {a : Addr} {vs : List V} : H a = some (.tup vs) → RDs ρ H xs vs → RD ρ H (.tup xs) (.ref a)
  | ref {n : Nat} {a : Addr} : ρ[n]? = some a → RD ρ H (.ref n) (.ref a)
  | fn (a : Addr) : RD ρ H (.fn a) (.ref a)
inductive RDs (ρ : List Addr) (H : Hp) : List D → List V → Prop where
  | nil : RDs ρ H [] []
  | cons {x : D} {v : V} {xs : List D} {vs : List V} : RD ρ H x v → RDs ρ H xs vs → RDs ρ H (x :: xs) (v :: vs)
end
structure Ext0 (ρ : List Addr) (H : Hp) (ρ' : List Addr) (H' : Hp) : Prop where
  pre : ∀ (n : Nat) (a : Addr), ρ[n]? = some a → ρ'[n]? = some a
  tup : ∀ a vs, H a = some (.tup vs) → H' a = some (.tup vs)
  frz : ∀ a o u, H a = some (.frz o u) → H' a = some (.frz o u)
structure Ext (ρ : List Addr) (H : Hp) (ρ' : List Addr) (H' : Hp) : Prop extends Ext0 ρ H ρ' H' where
  out : ∀ a (vs : HO), H a = some vs → (∀ n : Nat, ρ[n]? ≠ some a) → H' a = some vs ∧ ∀ n : Nat, ρ'[n]? ≠ some a
theorem Ext.refl (ρ : List Addr) (H : Hp) : Ext ρ H ρ H := ⟨⟨fun _ _ h => h, fun _ _ h => h, fun _ _ _ h => h⟩, fun _ _ h n => ⟨h, n⟩⟩
theorem Ext.trans {ρ ρ1 ρ2 : List Addr} {H H1 H2 : Hp} (a : Ext ρ H ρ1 H1) (b : Ext ρ1 H1 ρ2 H2) : Ext ρ H ρ2 H2 :=
  ⟨⟨fun n x h => b.pre n x (a.pre n x h), fun n x h => b.tup n x (a.tup n x h), fun n o x h => b.frz n o x (a.frz n o x h)⟩, fun x vs h n => let ⟨h1, n1⟩ := a.out x vs h n; b.out x vs h1 n1⟩
section
variable {ρ ρ' : List Addr} {H H' : Hp}
mutual
theorem RD.mono0 (e : Ext0 ρ H ρ' H') : ∀ {d : D} {v : V}, RD ρ H d v → RD ρ' H' d v
  | _, _, .non => .non
  | _, _, .bl b => .bl b
  | _, _, .int i => .int i
  | _, _, .str x => .str x
  | _, _, .tup h r => .tup (e.tup _ _ h) (RDs.mono0 e r)
  | _, _, .ref h => .ref (e.pre _ _ h)
  | _, _, .fn a => .fn a
theorem RDs.mono0 (e : Ext0 ρ H ρ' H') : ∀ {d : List D} {v : List V}, RDs ρ H d v → RDs ρ' H' d v
  | _, _, .nil => .nil
  | _, _, .cons r q => .cons (RD.mono0 e r) (RDs.mono0 e q)
end
theorem RD.mono {d : D} {v : V} (r : RD ρ H d v) (e : Ext ρ H ρ' H') : RD ρ' H' d v := r.mono0 e.toExt0
theorem RDs.mono {d : List D} {v : List V} (r : RDs ρ H d v) (e : Ext ρ H ρ' H') : RDs ρ' H' d v := r.mono0 e.toExt0
theorem RDs.length : ∀ {d : List D} {v : List V}, RDs ρ H d v → d.length = v.length
  | _, _, .nil => rfl
  | _, _, .cons _ q => congrArg (· + 1) (RDs.length q)
theorem RDs.get : ∀ {d : List D} {v : List V} {i : Nat} {x : D}, RDs ρ H d v → d[i]? = some x → ∃ u, v[i]? = some u ∧ RD ρ H x u
  | _, _, _, _, .nil, e => by simp at e
  | _, _, 0, _, .cons r _, e => by simp at e; subst e; exact ⟨_, rfl, r⟩
  | _, _, i + 1, x, .cons _ q, e => by
    obtain ⟨u, h1, h2⟩ := RDs.get (i := i) (x := x) q (by simpa using e)
    exact ⟨u, by simpa using h1, h2⟩
theorem RDs.set {x : D} {u : V} (r : RD ρ H x u) : ∀ {d : List D} {v : List V} (i : Nat), RDs ρ H d v → RDs ρ H (d.set i x) (v.set i u)
  | _, _, _, .nil => .nil
  | _, _, 0, .cons _ q => .cons r q
  | _, _, i + 1, .cons p q => .cons p (RDs.set r i q)
theorem RDs.append : ∀ {d e : List D} {v w : List V}, RDs ρ H d v → RDs ρ H e w → RDs ρ H (d ++ e) (v ++ w)
  | _, _, _, _, .nil, q => q
  | _, _, _, _, .cons r p, q => .cons r (RDs.append p q)
theorem RDs.take : ∀ {d : List D} {v : List V} (n : Nat), RDs ρ H d v → RDs ρ H (d.take n) (v.take n)
  | _, _, 0, _ => .nil
  | _, _, _ + 1, .nil => .nil
  | _, _, n + 1, .cons r t => .cons r (RDs.take n t)
theorem RDs.drop : ∀ {d : List D} {v : List V} (n : Nat), RDs ρ H d v → RDs ρ H (d.drop n) (v.drop n)
  | _, _, 0, r => r
  | _, _, _ + 1, .nil => .nil
  | _, _, n + 1, .cons _ t => RDs.drop n t
theorem RDs.rep {xs : List D} {us : List V} (h : RDs ρ H xs us) : ∀ k : Nat, RDs ρ H (List.replicate k xs).flatten (List.replicate k us).flatten
  | 0 => .nil
  | k + 1 => by
    rw [List.replicate_succ, List.replicate_succ, List.flatten_cons, List.flatten_cons]
    exact RDs.append h (RDs.rep h k)
theorem RDs.one {x : D} {vs : List V} (h : RDs ρ H [x] vs) : ∃ v, vs = [v] ∧ RD ρ H x v := by
  cases h with
  | cons r q => cases q; exact ⟨_, rfl, r⟩
theorem RDs.two {x y : D} {vs : List V} (h : RDs ρ H [x, y] vs) : ∃ v u, vs = [v, u] ∧ RD ρ H x v ∧ RD ρ H y u := by
  cases h with
  | cons r q => obtain ⟨u, rfl, r2⟩ := q.one; exact ⟨_, _, rfl, r, r2⟩
end
def Fz (K : PySem.W.Frag) (H : Hp) (a : Addr) (xs : List V) : Prop := (∃ o, H a = some (.frz o (.lst xs))) ∨
    ∃ (o : Obj) (its : Array Value) (n : Nat), K.lookup a = some o ∧ o.cls = .type "list" ∧ o.dict = none ∧ o.data = .seq its n ∧ its.size ≤ sizeLine ∧ Vals xs its.toList
theorem Fz.sq {K : PySem.W.Frag} {H : Hp} {a : Addr} {xs : List V} (h : Fz K H a xs) : SqL K H a xs := by
  rcases h with ⟨o, h⟩ | h
  · exact .inl (.inr ⟨o, h⟩)
  · exact .inr h
def ObR (K : PySem.W.Frag) (ρ : List Addr) (H : Hp) : Ob → Addr → Prop
  | .lst xs, a => ∃ vs, H a = some (.lst vs) ∧ RDs ρ H xs vs
  | .flst xs, a => ∃ vs, Fz K H a vs ∧ RDs ρ H xs vs
  | .iset f n, a => H a = some (.set f n)
  | .dct kvs, a => ∃ vs, H a = some (.dK ((kvs.map (·.1)).zip vs)) ∧ RDs ρ H (kvs.map (·.2)) vs
  | .fdct kvs, a => ∃ o vs, H a = some (.frz o (.dK ((kvs.map (·.1)).zip vs))) ∧ RDs ρ H (kvs.map (·.2)) vs
  | .tdct kvs, a => ∃ vs, H a = some (.dT ((kvs.map (·.1)).zip vs)) ∧ RDs ρ H (kvs.map (·.2)) vs
  | .ftdct kvs, a => ∃ o vs, H a = some (.frz o (.dT ((kvs.map (·.1)).zip vs))) ∧ RDs ρ H (kvs.map (·.2)) vs
  | .tset ks, a => ∃ xs : List (List Int × Addr), ks = xs.map (·.1) ∧ H a = some (.ext (TS.TSet a xs)) ∧ ∀ p ∈ xs, H p.2 = some (.tup (p.1.map V.int))
  | .fnc x, a => PySem.W.nsIn K mainGlobals x = some (some (.ref a)) ∧ ∃ o, K.lookup a = some o
  | .exc c, a => ∃ C, PySem.W.nsIn K mainGlobals c = some (some (.ref C)) ∧ H a = some (.ext (fun h => ∃ o, h.get? a = some o ∧ o.cls = .ref C))
structure Sim (K : PySem.W.Frag) (ρ : List Addr) (S : Sto) (H : Hp) : Prop where
  len : ρ.length = S.length
  nd : ∀ (i j : Nat) (a : Addr) (o1 o2 : Ob), ρ[i]? = some a → ρ[j]? = some a → S[i]? = some o1 → S[j]? = some o2 → o1.mut = true → o2.mut = true → i = j
  at' : ∀ (n : Nat) (a : Addr) (o : Ob), ρ[n]? = some a → S[n]? = some o → ObR K ρ H o a
section
variable {K : PySem.W.Frag} {ρ ρ' : List Addr} {H : Hp} {S : Sto}
theorem ext_new {p : Addr} {o : HO} (hp : H p = none) : Ext ρ H ρ (upd H p o) :=
  ⟨⟨fun _ _ h => h, fun a vs h => by rw [upd_ne (ne_of_none h hp)]; exact h, fun a o vs h => by rw [upd_ne (ne_of_none h hp)]; exact h⟩, fun a vs h n => ⟨by rw [upd_ne (ne_of_none h hp)]; exact h, n⟩⟩
theorem ext0_upd {p : Addr} {o : HO} {ys : List V} (hp : H p = some (.lst ys)) : Ext0 ρ H ρ (upd H p o) :=
  ⟨fun _ _ h => h, fun a vs h => by rw [upd_ne (ne_of h hp (by intro z; cases z))]; exact h, fun a o vs h => by rw [upd_ne (ne_of h hp (by intro z; cases z))]; exact h⟩
def Plain (u : HO) : Prop := (∀ vs, u ≠ .tup vs) ∧ ∀ o v, u ≠ .frz o v
theorem plain_lst (ys : List V) : Plain (.lst ys) := ⟨fun _ z => (by cases z), fun _ _ z => (by cases z)⟩
theorem ext0_updG {p : Addr} {o u : HO} (hp : H p = some u) (hu : Plain u) : Ext0 ρ H ρ (upd H p o) :=
  ⟨fun _ _ h => h, fun a vs h => by rw [upd_ne (ne_of h hp (fun z => hu.1 vs z.symm))]; exact h, fun a o vs h => by rw [upd_ne (ne_of h hp (fun z => hu.2 o vs z.symm))]; exact h⟩
theorem ext_updG {p : Addr} {o u : HO} {n : Nat} (hn : ρ[n]? = some p) (hp : H p = some u) (hu : Plain u) : Ext ρ H ρ (upd H p o) :=
  ⟨ext0_updG hp hu, fun a vs h hm => ⟨by rw [upd_ne (fun z => hm n (by rw [z]; exact hn))]; exact h, hm⟩⟩
theorem ext_upd {p : Addr} {o : HO} {ys : List V} {n : Nat} (hn : ρ[n]? = some p) (hp : H p = some (.lst ys)) : Ext ρ H ρ (upd H p o) :=
  ⟨ext0_upd hp, fun a vs h hm => ⟨by rw [upd_ne (fun z => hm n (by rw [z]; exact hn))]; exact h, hm⟩⟩
theorem ObR.laid {o : Ob} {a p : Addr} {u : HO} (h : ObR K ρ H o a) (hp : H p = none) : ObR K ρ (upd H p u) o a := by
  cases o with
  | lst xs =>
    obtain ⟨vs, e, r⟩ := h
    exact ⟨vs, by rw [upd_ne (ne_of_none e hp)]; exact e, r.mono (ext_new hp)⟩
  | flst xs =>
    obtain ⟨vs, e, r⟩ := h
    refine ⟨vs, ?_, r.mono (ext_new hp)⟩
    rcases e with ⟨o, e⟩ | e
    · exact .inl ⟨o, by rw [upd_ne (ne_of_none e hp)]; exact e⟩
    · exact .inr e
  | iset f n =>
    show upd H p u a = some (.set f n)
    have e : H a = some (.set f n) := h
    rw [upd_ne (ne_of_none e hp)]; exact e
  | dct kvs =>
    obtain ⟨vs, e, r⟩ := h
    exact ⟨vs, by rw [upd_ne (ne_of_none e hp)]; exact e, r.mono (ext_new hp)⟩
  | fdct kvs =>
    obtain ⟨o, vs, e, r⟩ := h
    exact ⟨o, vs, by rw [upd_ne (ne_of_none e hp)]; exact e, r.mono (ext_new hp)⟩
  | tdct kvs =>
    obtain ⟨vs, e, r⟩ := h
    exact ⟨vs, by rw [upd_ne (ne_of_none e hp)]; exact e, r.mono (ext_new hp)⟩
  | ftdct kvs =>
    obtain ⟨o, vs, e, r⟩ := h
    exact ⟨o, vs, by rw [upd_ne (ne_of_none e hp)]; exact e, r.mono (ext_new hp)⟩
  | tset ks =>
    obtain ⟨xs, e0, e, r⟩ := h
    exact ⟨xs, e0, by rw [upd_ne (ne_of_none e hp)]; exact e, fun p hq => by rw [upd_ne (ne_of_none (r p hq) hp)]; exact r p hq⟩
  | fnc x => exact h
  | exc c =>
    obtain ⟨C, hc, e⟩ := h
    exact ⟨C, hc, by rw [upd_ne (ne_of_none e hp)]; exact e⟩
theorem ObR.writtenG {o : Ob} {a p : Addr} {u u0 : HO} (h : ObR K ρ H o a) (hp : H p = some u0) (hu : Plain u0) (hn : o.mut = true → a ≠ p) : ObR K ρ (upd H p u) o a := by
  cases o with
  | lst xs =>
    obtain ⟨vs, e, r⟩ := h
    exact ⟨vs, by rw [upd_ne (hn rfl)]; exact e, r.mono0 (ext0_updG hp hu)⟩
  | flst xs =>
    obtain ⟨vs, e, r⟩ := h
    refine ⟨vs, ?_, r.mono0 (ext0_updG hp hu)⟩
    rcases e with ⟨o, e⟩ | e
    · exact .inl ⟨o, by rw [upd_ne (ne_of e hp (fun z => hu.2 _ _ z.symm))]; exact e⟩
    · exact .inr e
  | iset f n =>
    show upd H p u a = some (.set f n)
    rw [upd_ne (hn rfl)]; exact h
  | dct kvs =>
    obtain ⟨vs, e, r⟩ := h
    exact ⟨vs, by rw [upd_ne (hn rfl)]; exact e, r.mono0 (ext0_updG hp hu)⟩
  | tdct kvs =>
    obtain ⟨vs, e, r⟩ := h
    exact ⟨vs, by rw [upd_ne (hn rfl)]; exact e, r.mono0 (ext0_updG hp hu)⟩
  | fdct kvs =>
    obtain ⟨o, vs, e, r⟩ := h
    exact ⟨o, vs, by rw [upd_ne (hn rfl)]; exact e, r.mono0 (ext0_updG hp hu)⟩
  | ftdct kvs =>
    obtain ⟨o, vs, e, r⟩ := h
    exact ⟨o, vs, by rw [upd_ne (hn rfl)]; exact e, r.mono0 (ext0_updG hp hu)⟩
  | tset ks =>
    obtain ⟨xs, e0, e, r⟩ := h
    exact ⟨xs, e0, by rw [upd_ne (hn rfl)]; exact e, fun p hq => (ext0_updG (ρ := ρ) hp hu).tup _ _ (r p hq)⟩
  | fnc x => exact h
  | exc c =>
    obtain ⟨C, hc, e⟩ := h
    exact ⟨C, hc, by rw [upd_ne (hn rfl)]; exact e⟩
theorem ObR.written {o : Ob} {a p : Addr} {u : HO} {ys : List V} (h : ObR K ρ H o a) (hp : H p = some (.lst ys)) (hn : o.mut = true → a ≠ p) : ObR K ρ (upd H p u) o a := h.writtenG hp (plain_lst ys) hn
theorem ObR.more {o : Ob} {a : Addr} (h : ObR K ρ H o a) (e : Ext0 ρ H ρ' H) : ObR K ρ' H o a := by
  cases o with
  | lst xs => obtain ⟨vs, e1, r⟩ := h; exact ⟨vs, e1, r.mono0 e⟩
  | flst xs => obtain ⟨vs, e1, r⟩ := h; exact ⟨vs, e1, r.mono0 e⟩
  | iset f n => exact h
  | dct kvs => obtain ⟨vs, e1, r⟩ := h; exact ⟨vs, e1, r.mono0 e⟩
  | tdct kvs => obtain ⟨vs, e1, r⟩ := h; exact ⟨vs, e1, r.mono0 e⟩
  | fdct kvs => obtain ⟨o, vs, e1, r⟩ := h; exact ⟨o, vs, e1, r.mono0 e⟩
  | ftdct kvs => obtain ⟨o, vs, e1, r⟩ := h; exact ⟨o, vs, e1, r.mono0 e⟩
  | tset ks => exact h
  | fnc x => exact h
  | exc c => exact h
theorem Sim.laid (s : Sim K ρ S H) {p : Addr} {u : HO} (hp : H p = none) : Sim K ρ S (upd H p u) :=
  ⟨s.len, s.nd, fun n a o h1 h2 => (s.at' n a o h1 h2).laid hp⟩
theorem Sim.lst {n : Nat} {xs : List D} (s : Sim K ρ S H) (h : S[n]? = some (.lst xs)) : ∃ a vs, ρ[n]? = some a ∧ H a = some (.lst vs) ∧ RDs ρ H xs vs := by
  have hl : n < ρ.length := by rw [s.len]; exact (List.getElem?_eq_some_iff.mp h).1
  obtain ⟨vs, e, r⟩ := s.at' n _ _ (List.getElem?_eq_getElem hl) h
  exact ⟨_, vs, List.getElem?_eq_getElem hl, e, r⟩
def lstOf (S : Sto) (n : Nat) : Option (List D) := match S[n]? with
  | some (.lst xs) => some xs
  | some (.flst xs) => some xs
  | _ => none
theorem Sim.lstOf {n : Nat} {xs : List D} (s : Sim K ρ S H) (h : L3.lstOf S n = some xs) : ∃ a vs, ρ[n]? = some a ∧ SqL K H a vs ∧ RDs ρ H xs vs := by
  unfold L3.lstOf at h
  cases e : S[n]? with
  | none => rw [e] at h; cases h
  | some o =>
    have hl : n < ρ.length := by rw [s.len]; exact (List.getElem?_eq_some_iff.mp e).1
    have q := s.at' n _ _ (List.getElem?_eq_getElem hl) e
    rw [e] at h
    cases o with
    | lst ys =>
      cases h
      obtain ⟨vs, e1, r⟩ := q
      exact ⟨_, vs, List.getElem?_eq_getElem hl, .inl (.inl e1), r⟩
    | flst ys =>
      cases h
      obtain ⟨vs, e1, r⟩ := q
      exact ⟨_, vs, List.getElem?_eq_getElem hl, e1.sq, r⟩
    | iset f n => cases h
    | dct kvs => cases h
    | fdct kvs => cases h
    | ftdct kvs => cases h
    | tset ks => cases h
    | fnc x => cases h
    | tdct kvs => cases h
    | exc c => cases h
theorem Sim.setG {n : Nat} {a : Addr} {o0 o1 : Ob} {u0 u1 : HO} (s : Sim K ρ S H) (ha : ρ[n]? = some a) (hS : S[n]? = some o0) (hm0 : o0.mut = true) (hH : H a = some u0) (hu : Plain u0) (r : ObR K ρ (upd H a u1) o1 a) : Sim K ρ (S.set n o1) (upd H a u1) := by
  have hl : n < S.length := (List.getElem?_eq_some_iff.mp hS).1
  have key : ∀ (m : Nat) (w : Ob), w.mut = true → (S.set n o1)[m]? = some w → ∃ w', S[m]? = some w' ∧ w'.mut = true := fun m w hw h => by
    by_cases hmn : n = m
    · subst hmn; exact ⟨_, hS, hm0⟩
    · rw [List.getElem?_set_ne hmn] at h; exact ⟨_, h, hw⟩
  refine ⟨by rw [List.length_set]; exact s.len, fun i j b x1 x2 h1 h2 h3 h4 m1 m2 => ?_, fun m b o h1 h2 => ?_⟩
  · obtain ⟨_, h3, q3⟩ := key i x1 m1 h3
    obtain ⟨_, h4, q4⟩ := key j x2 m2 h4
    exact s.nd i j b _ _ h1 h2 h3 h4 q3 q4
  by_cases hmn : n = m
  · subst hmn
    rw [ha] at h1; cases h1
    rw [List.getElem?_set_self hl] at h2
    cases h2
    exact r
  · rw [List.getElem?_set_ne hmn] at h2
    exact (s.at' m b o h1 h2).writtenG hH hu (fun e z => hmn (s.nd n m a _ _ ha (by rw [h1, z]) hS h2 hm0 e))
theorem Sim.set {n : Nat} {a : Addr} {ys : List V} {xs zs : List D} {vs : List V} (s : Sim K ρ S H) (ha : ρ[n]? = some a) (hS : S[n]? = some (.lst zs)) (hH : H a = some (.lst ys)) (r : RDs ρ H xs vs) : Sim K ρ (S.set n (.lst xs)) (upd H a (.lst vs)) :=
  s.setG ha hS rfl hH (plain_lst ys) ⟨vs, upd_same, r.mono0 (ext0_upd hH)⟩
theorem ext0_push {a : Addr} : Ext0 ρ H (ρ ++ [a]) H :=
  ⟨fun n b h => by rw [List.getElem?_append_left (List.getElem?_eq_some_iff.mp h).1]; exact h, fun _ _ h => h, fun _ _ _ h => h⟩
theorem get_push {α : Type} {l : List α} {a b : α} {n : Nat} (h : (l ++ [a])[n]? = some b) : l[n]? = some b ∨ (n = l.length ∧ b = a) := by
  by_cases hl : n < l.length
  · rw [List.getElem?_append_left hl] at h; exact .inl h
  · rw [List.getElem?_append_right (by omega)] at h
    have : n - l.length = 0 := by
      have := (List.getElem?_eq_some_iff.mp h).1
      simp at this; omega
    rw [this] at h; simp at h
    exact .inr ⟨by omega, h.symm⟩
theorem ext_newl {a : Addr} {vs : List V} (ha : H a = none) : Ext ρ H (ρ ++ [a]) (upd H a (.lst vs)) :=
  ⟨⟨ext0_push.pre (H := H), fun b us h => by rw [upd_ne (ne_of_none h ha)]; exact h, fun b o us h => by rw [upd_ne (ne_of_none h ha)]; exact h⟩, fun b us h n => ⟨by rw [upd_ne (ne_of_none h ha)]; exact h, fun i hi => by
    rcases get_push hi with hi | ⟨_, e⟩
    · exact n i hi
    · rw [e, ha] at h; cases h⟩⟩
theorem ext_newG {a : Addr} {u : HO} (ha : H a = none) : Ext ρ H (ρ ++ [a]) (upd H a u) :=
  ⟨⟨ext0_push.pre (H := H), fun b us h => by rw [upd_ne (ne_of_none h ha)]; exact h, fun b o us h => by rw [upd_ne (ne_of_none h ha)]; exact h⟩, fun b us h n => ⟨by rw [upd_ne (ne_of_none h ha)]; exact h, fun i hi => by
    rcases get_push hi with hi | ⟨_, e⟩
    · exact n i hi
    · rw [e, ha] at h; cases h⟩⟩
theorem Sim.pushG {a : Addr} {o1 : Ob} {u : HO} (s : Sim K ρ S H) (ha : H a = none) (r : ObR K (ρ ++ [a]) (upd H a u) o1 a) : Sim K (ρ ++ [a]) (S ++ [o1]) (upd H a u) := by
  have no : ∀ (n : Nat) (o : Ob), o.mut = true → ρ[n]? = some a → S[n]? = some o → False := fun n o hm h1 h2 => by
    have q := s.at' n a _ h1 h2
    cases o with
    | lst xs => obtain ⟨vs, e, _⟩ := q; rw [ha] at e; cases e
    | flst xs => cases hm
    | iset f n => have q : H a = _ := q; rw [ha] at q; cases q
    | dct kvs => obtain ⟨vs, e, _⟩ := q; rw [ha] at e; cases e
    | tdct kvs => obtain ⟨vs, e, _⟩ := q; rw [ha] at e; cases e
    | fdct kvs => obtain ⟨o, vs, e, _⟩ := q; rw [ha] at e; cases e
    | ftdct kvs => obtain ⟨o, vs, e, _⟩ := q; rw [ha] at e; cases e
    | tset ks => obtain ⟨xs, _, e, _⟩ := q; rw [ha] at e; cases e
    | fnc x => cases hm
    | exc c => obtain ⟨C, _, e⟩ := q; rw [ha] at e; cases e
  refine ⟨by simp [s.len], fun i j b x1 x2 h1 h2 h3 h4 m1 m2 => ?_, fun n b o h1 h2 => ?_⟩
  · rcases get_push h3 with h3 | ⟨e3, _⟩ <;> rcases get_push h4 with h4 | ⟨e4, _⟩
    · have l1 := (List.getElem?_eq_some_iff.mp h3).1
      have l2 := (List.getElem?_eq_some_iff.mp h4).1
      rcases get_push h1 with h1 | ⟨e1, f1⟩ <;> rcases get_push h2 with h2 | ⟨e2, f2⟩
      · exact s.nd i j b _ _ h1 h2 h3 h4 m1 m2
      · have := s.len; omega
      · have := s.len; omega
      · have := s.len; omega
    · have l1 := (List.getElem?_eq_some_iff.mp h3).1
      rcases get_push h2 with h2 | ⟨e2, f2⟩
      · have := (List.getElem?_eq_some_iff.mp h2).1; have := s.len; omega
      · subst f2
        rcases get_push h1 with h1 | ⟨e1, _⟩
        · exact (no i _ m1 h1 h3).elim
        · have := s.len; omega
    · have l1 := (List.getElem?_eq_some_iff.mp h4).1
      rcases get_push h1 with h1 | ⟨e2, f2⟩
      · have := (List.getElem?_eq_some_iff.mp h1).1; have := s.len; omega
      · subst f2
        rcases get_push h2 with h2 | ⟨e1, _⟩
        · exact (no j _ m2 h2 h4).elim
        · have := s.len; omega
    · omega
  · rcases get_push h2 with h2 | ⟨e2, f2⟩
    · rcases get_push h1 with h1 | ⟨e1, f1⟩
      · exact ((s.at' n b o h1 h2).laid ha).more ext0_push
      · have := (List.getElem?_eq_some_iff.mp h2).1; have := s.len; omega
    · rcases get_push h1 with h1 | ⟨e1, f1⟩
      · have := (List.getElem?_eq_some_iff.mp h1).1; have := s.len; omega
      · subst f1 f2
        exact r
theorem Sim.push {a : Addr} {xs : List D} {vs : List V} (s : Sim K ρ S H) (ha : H a = none) (r : RDs ρ H xs vs) : Sim K (ρ ++ [a]) (S ++ [.lst xs]) (upd H a (.lst vs)) :=
  s.pushG ha ⟨vs, upd_same, r.mono (ext_newl ha)⟩
theorem get_self {α : Type} (l : List α) (a : α) : (l ++ [a])[l.length]? = some a := by
  rw [List.getElem?_append_right (Nat.le_refl _)]; simp
end
structure RO (ρ : List Addr) (H : Hp) (l : Lo) (σ : St) : Prop where
  len : l.length = σ.length
  get : ∀ (i : Nat) (d : D), l[i]? = some (some d) → ∃ v, σ[i]? = some (some v) ∧ RD ρ H d v
theorem RO.mono {ρ ρ' : List Addr} {H H' : Hp} {l : Lo} {σ : St} (r : RO ρ H l σ) (e : Ext ρ H ρ' H') : RO ρ' H' l σ :=
  ⟨r.len, fun i d h => let ⟨v, h1, h2⟩ := r.get i d h; ⟨v, h1, h2.mono e⟩⟩
theorem RO.set {ρ : List Addr} {H : Hp} {l : Lo} {σ : St} {d : D} {v : V} (r : RO ρ H l σ) (i : Nat) (h : RD ρ H d v) : RO ρ H (l.set i (some d)) (σ.set i (some v)) := by
  refine ⟨by simp [r.len], fun j x hj => ?_⟩
  by_cases hij : i = j
  · subst hij
    have hl : i < l.length := by have := (List.getElem?_eq_some_iff.mp hj).1; simpa using this
    rw [List.getElem?_set_self hl] at hj
    cases hj
    exact ⟨v, List.getElem?_set_self (by rw [← r.len]; exact hl), h⟩
  · rw [List.getElem?_set_ne hij] at hj
    rw [List.getElem?_set_ne hij]
    exact r.get j x hj
abbrev EM := Lo → Sto → Option (D × Sto)
abbrev TM := Lo → Sto → Option (Bool × Sto)
abbrev AM := Lo → Sto → Option (List D × Sto)
abbrev FM := List D → Sto → Option (D × Sto)
inductive Fl where
  | nx | bk | ct | rt (d : D)
abbrev SM := Lo → Sto → Option (Fl × Lo × Sto)
abbrev GM := D → Lo → Sto → Option (Lo × Sto)
abbrev GsM := List D → Lo → Sto → Option (Lo × Sto)
def Pv (K : PySem.W.Frag) (ρ : List Addr) (H : Hp) (v : D) (S : Sto) (Q : VK) : Prop := ∀ ρ' H' v', Ext ρ H ρ' H' → Sim K ρ' S H' → RD ρ' H' v v' → Q v' H'
theorem Pv.ext {K : PySem.W.Frag} {ρ ρ1 : List Addr} {H H1 : Hp} {v : D} {S : Sto} {Q : VK} (p : Pv K ρ H v S Q) (e : Ext ρ H ρ1 H1) : Pv K ρ1 H1 v S Q := fun ρ' H' v' e' s r => p ρ' H' v' (e.trans e') s r
def te (K : PySem.W.Frag) (m : EM) : TE := fun σ H Q => ∃ ρ l S v S', Sim K ρ S H ∧ RO ρ H l σ ∧ m l S = some (v, S') ∧ Pv K ρ H v S' Q
def tt (K : PySem.W.Frag) (m : TM) : TT := fun σ H Q => ∃ ρ l S v S', Sim K ρ S H ∧ RO ρ H l σ ∧ m l S = some (v, S') ∧ ∀ ρ' H', Ext ρ H ρ' H' → Sim K ρ' S' H' → Q v H'
def ta (K : PySem.W.Frag) (m : AM) : TA := fun σ H Q => ∃ ρ l S v S', Sim K ρ S H ∧ RO ρ H l σ ∧ m l S = some (v, S') ∧ ∀ ρ' H' vs, Ext ρ H ρ' H' → Sim K ρ' S' H' → RDs ρ' H' v vs → Q vs H'
def ends (ρ : List Addr) (H : Hp) (E : Ends) (σ : St) : Fl → Prop
  | .nx => E.nx σ H
  | .bk => E.bk σ H
  | .ct => E.ct σ H
  | .rt d => ∀ v, RD ρ H d v → E.rt v H
def ts (K : PySem.W.Frag) (m : SM) : TS := fun E σ H => ∃ ρ l S f l' S', Sim K ρ S H ∧ RO ρ H l σ ∧ m l S = some (f, l', S') ∧ ∀ ρ' H' σ', Ext ρ H ρ' H' → Sim K ρ' S' H' → RO ρ' H' l' σ' → ends ρ' H' E σ' f
def tg (K : PySem.W.Frag) (g : GM) : TG := fun v σ H Q => ∃ ρ l S d l' S', Sim K ρ S H ∧ RO ρ H l σ ∧ RD ρ H d v ∧ g d l S = some (l', S') ∧ ∀ ρ' H' σ', Ext ρ H ρ' H' → Sim K ρ' S' H' → RO ρ' H' l' σ' → Q σ' H'
def tgs (K : PySem.W.Frag) (g : GsM) : TGs := fun vs σ H Q => ∃ ρ l S ds l' S', Sim K ρ S H ∧ RO ρ H l σ ∧ RDs ρ H ds vs ∧ g ds l S = some (l', S') ∧ ∀ ρ' H' σ', Ext ρ H ρ' H' → Sim K ρ' S' H' → RO ρ' H' l' σ' → Q σ' H'
def PE3 (X : Cx) (e : Expr) (m : EM) : Prop := PE X e (te X.K m)
def PT3 (X : Cx) (e : Expr) (m : TM) : Prop := PT X e (tt X.K m)
def PW3 (X : Cx) (e : Expr) (m : TM) : Prop := PW X e (tt X.K m)
def PA3 (X : Cx) (es : List Expr) (m : AM) : Prop := PA X es (ta X.K m)
def PS3 (X : Cx) (st : Stmt) (m : SM) : Prop := PS X st (ts X.K m)
def PSs3 (X : Cx) (st : List Stmt) (m : SM) : Prop := PSs X st (ts X.K m)
def PG3 (X : Cx) (tg' : Expr) (m : GM) : Prop := PG X tg' (tg X.K m)
def PGs3 (X : Cx) (ts' : List Expr) (m : GsM) : Prop := PGs X ts' (tgs X.K m)
theorem PE.imp {X : Cx} {e : Expr} {t u : TE} (h : PE X e t) (i : ∀ σ H Q, u σ H Q → t σ H Q) : PE X e u := fun pins s σ H Q I q => h pins s σ H Q I (i _ _ _ q)
theorem PT.imp {X : Cx} {e : Expr} {t u : TT} (h : PT X e t) (i : ∀ σ H Q, u σ H Q → t σ H Q) : PT X e u := fun pins s σ H Q I q => h pins s σ H Q I (i _ _ _ q)
theorem PW.imp {X : Cx} {e : Expr} {t u : TT} (h : PW X e t) (i : ∀ σ H Q, u σ H Q → t σ H Q) : PW X e u := fun wh pins s σ H Q I q => h wh pins s σ H Q I (i _ _ _ q)
theorem PA.imp {X : Cx} {e : List Expr} {t u : TA} (h : PA X e t) (i : ∀ σ H Q, u σ H Q → t σ H Q) : PA X e u := fun pos pins s σ H Q I q => h pos pins s σ H Q I (i _ _ _ q)
theorem PS.imp {X : Cx} {e : Stmt} {t u : TS} (h : PS X e t) (i : ∀ E σ H, u E σ H → t E σ H) : PS X e u := fun pins s σ H Q I q => h pins s σ H Q I (i _ _ _ q)
theorem PSs.imp {X : Cx} {e : List Stmt} {t u : TS} (h : PSs X e t) (i : ∀ E σ H, u E σ H → t E σ H) : PSs X e u := fun pins s σ H Q I q => h pins s σ H Q I (i _ _ _ q)
theorem PG.imp {X : Cx} {e : Expr} {t u : TG} (h : PG X e t) (i : ∀ v σ H Q, u v σ H Q → t v σ H Q) : PG X e u := fun pins s σ H v w Q I r q => h pins s σ H v w Q I r (i _ _ _ _ q)
theorem PGs.imp {X : Cx} {e : List Expr} {t u : TGs} (h : PGs X e t) (i : ∀ v σ H Q, u v σ H Q → t v σ H Q) : PGs X e u := fun pins s σ H v w Q I r q => h pins s σ H v w Q I r (i _ _ _ _ q)
theorem bnd {α β : Type} {o : Option α} {f : α → Option β} {b : β} (h : o.bind f = some b) : ∃ a, o = some a ∧ f a = some b := Option.bind_eq_some_iff.mp h
def eVar (i : Nat) : EM := fun l S => match l[i]? with
  | some (some d) => some (d, S)
  | _ => none
def eC (d : D) : EM := fun _ S => some (d, S)
def eOp (f : D → D → Sto → Option (D × Sto)) (a b : EM) : EM := fun l S => (a l S).bind fun p => (b l p.2).bind fun q => f p.1 q.1 q.2
def eUn (f : D → Sto → Option (D × Sto)) (a : EM) : EM := fun l S => (a l S).bind fun p => f p.1 p.2
def aNil : AM := fun _ S => some ([], S)
def aCons (a : EM) (r : AM) : AM := fun l S => (a l S).bind fun p => (r l p.2).bind fun q => some (p.1 :: q.1, q.2)
def eCall (f : FM) (as : AM) : EM := fun l S => (as l S).bind fun p => f p.1 p.2
def tE (a : EM) : TM := fun l S => (a l S).bind fun p => match p.1 with
  | .bl b => some (b, p.2)
  | _ => none
def tAnd3 (a b : TM) : TM := fun l S => (a l S).bind fun p => if p.1 = true then b l p.2 else some (false, p.2)
def tOr3 (a b : TM) : TM := fun l S => (a l S).bind fun p => if p.1 = true then some (true, p.2) else b l p.2
def tNot3 (a : TM) : TM := fun l S => (a l S).bind fun p => some (!p.1, p.2)
def eAnd3 (a b : EM) : EM := fun l S => (a l S).bind fun p => match p.1 with
  | .bl true => b l p.2
  | .bl false => some (.bl false, p.2)
  | _ => none
def eOr3 (a b : EM) : EM := fun l S => (a l S).bind fun p => match p.1 with
  | .bl true => some (.bl true, p.2)
  | .bl false => b l p.2
  | _ => none
def eNot3 (a : EM) : EM := fun l S => (a l S).bind fun p => match p.1 with
  | .bl b => some (.bl (!b), p.2)
  | _ => none
def eIf3 (c : TM) (a b : EM) : EM := fun l S => (c l S).bind fun p => if p.1 = true then a l p.2 else b l p.2
def Op3 (K : PySem.W.Frag) (f : D → D → Sto → Option (D × Sto)) (r : R2) : Prop :=
  ∀ ρ S H x y x' y' v S' Q, Sim K ρ S H → RD ρ H x x' → RD ρ H y y' → f x y S = some (v, S') → Pv K ρ H v S' Q → r x' y' H Q
def Fn3 (K : PySem.W.Frag) (f : FM) (r : List V → Hp → VK → Prop) : Prop :=
  ∀ ρ S H xs vs v S' Q, Sim K ρ S H → RDs ρ H xs vs → f xs S = some (v, S') → Pv K ρ H v S' Q → r vs H Q
def Mt3 (K : PySem.W.Frag) (f : D → List D → Sto → Option (D × Sto)) (r : V → List V → Hp → VK → Prop) : Prop :=
  ∀ ρ S H x x' xs vs v S' Q, Sim K ρ S H → RD ρ H x x' → RDs ρ H xs vs → f x xs S = some (v, S') → Pv K ρ H v S' Q → r x' vs H Q
theorem te_op {K : PySem.W.Frag} {f : D → D → Sto → Option (D × Sto)} {r : R2} (h : Op3 K f r) {a b : EM} (σ : St) (H : Hp) (Q : VK) (q : te K (eOp f a b) σ H Q) : tOp r (te K a) (te K b) σ H Q := by
  obtain ⟨ρ, l, S, v, S', sim, ro, hm, p⟩ := q
  obtain ⟨⟨x, S1⟩, h1, hm⟩ := bnd hm
  obtain ⟨⟨y, S2⟩, h2, hm⟩ := bnd hm
  exact ⟨ρ, l, S, x, S1, sim, ro, h1, fun ρ1 H1 x' e1 s1 r1 => ⟨ρ1, l, S1, y, S2, s1, ro.mono e1, h2, fun ρ2 H2 y' e2 s2 r2 => h ρ2 S2 H2 x y x' y' v S' Q s2 (r1.mono e2) r2 hm (p.ext (e1.trans e2))⟩⟩
section
variable {X : Cx} {a b c : Expr} {es : List Expr} {ma mb : EM} {mA : AM} {pos : Pos}
theorem p3_var (i : Nat) {x : Str} (hN : X.N[i]? = some x := by rfl) (hv : Vis X.env.scope x := by first | exact Or.inl rfl | exact Or.inr (Or.inl rfl) | exact Or.inr (Or.inr rfl)) (hd : (x == ("__debug__" : Str)) = false := by decide)
    (hcd : (x == ("__classdict__" : Str)) = false := by decide) : PE3 X (.Name x pos) (eVar i) :=
  PE.imp (pe_var hN hv hd hcd) fun σ H Q ⟨ρ, l, S, v, S', sim, ro, hm, p⟩ => by
    unfold eVar at hm
    split at hm
    · rename_i d e
      cases hm
      obtain ⟨w, h1, h2⟩ := ro.get i _ e
      exact ⟨w, h1, p ρ H w (Ext.refl ..) sim h2⟩
    · cases hm
theorem te_c {K : PySem.W.Frag} {d : D} {v : V} (h : ∀ ρ H, RD ρ H d v) (σ : St) (H : Hp) (Q : VK) (q : te K (eC d) σ H Q) : tC v σ H Q := by
  obtain ⟨ρ, l, S, w, S', sim, ro, hm, p⟩ := q
  cases hm
  exact p ρ H v (Ext.refl ..) sim (h ρ H)
theorem p3_int {i j} : PE3 X (.Constant (.int i) j pos) (eC (.int i)) := PE.imp pe_int (te_c fun _ _ => .int i)
theorem p3_bl {i j} : PE3 X (.Constant (.bool i) j pos) (eC (.bl i)) := PE.imp pe_bl (te_c fun _ _ => .bl i)
theorem p3_non {j} : PE3 X (.Constant .none j pos) (eC .non) := PE.imp pe_non (te_c fun _ _ => .non)
theorem p3_op {op : Operator} {f : D → D → Sto → Option (D × Sto)} {r : R2} (ho : OpR X (binaryOp op) r) (h3 : Op3 X.K f r) (ha : PE3 X a ma) (hb : PE3 X b mb) : PE3 X (.BinOp a op b pos) (eOp f ma mb) := PE.imp (pe_op ho ha hb) (te_op h3)
theorem p3_cmp {op : CmpOp} {f : D → D → Sto → Option (D × Sto)} {r : R2} (ho : OpR X (compareOp op) r) (h3 : Op3 X.K f r) (ha : PE3 X a ma) (hb : PE3 X b mb) (hm : behindInMarks op b = false) : PE3 X (.Compare a [op] [b] pos) (eOp f ma mb) := PE.imp (pe_cmpR ho ha hb hm) (te_op h3)
theorem tt_e {K : PySem.W.Frag} {m : EM} (σ : St) (H : Hp) (Q : Bool → Hp → Prop) (q : tt K (tE m) σ H Q) : te K m σ H fun x H' => ∃ k, x = .bl k ∧ Q k H' := by
  obtain ⟨ρ, l, S, v, S', sim, ro, hm, p⟩ := q
  obtain ⟨⟨x, S1⟩, h1, hm⟩ := bnd hm
  refine ⟨ρ, l, S, x, S1, sim, ro, h1, fun ρ' H' v' e s r => ?_⟩
  cases r with
  | bl k => cases hm; exact ⟨_, rfl, p ρ' H' e s⟩
  | _ => cases hm
theorem t3_cmp {op : CmpOp} {f : D → D → Sto → Option (D × Sto)} {r : R2} (ho : OpR X (compareOp op) r) (h3 : Op3 X.K f r) (ha : PE3 X a ma) (hb : PE3 X b mb) (hm : behindInMarks op b = false) : PT3 X (.Compare a [op] [b] pos) (tE (eOp f ma mb)) :=
  PT.imp (pt_cmpR ho ha hb hm) fun σ H Q q => te_op h3 σ H _ (tt_e σ H Q q)
theorem t3_val {m : EM} (h : PE3 X a m) (he : ∀ whole, isTrue a X.env whole = (do let v ← whole; standAt a.pos; holding [v] (truthy v)) := by intro _; rfl) : PT3 X a (tE m) :=
  PT.imp (pt_val h he) fun σ H Q q => tt_e σ H Q q
variable {t u : TM} {rest : List Expr}
theorem tt_and {K : PySem.W.Frag} (σ : St) (H : Hp) (Q : Bool → Hp → Prop) (q : tt K (tAnd3 t u) σ H Q) : L2.tAnd (tt K t) (tt K u) σ H Q := by
  obtain ⟨ρ, l, S, v, S', sim, ro, hm, p⟩ := q
  obtain ⟨⟨x, S1⟩, h1, hm⟩ := bnd hm
  refine ⟨ρ, l, S, x, S1, sim, ro, h1, fun ρ1 H1 e1 s1 => ?_⟩
  cases x with
  | true => exact iteT ⟨ρ1, l, S1, v, S', s1, ro.mono e1, hm, fun ρ2 H2 e2 s2 => p ρ2 H2 (e1.trans e2) s2⟩
  | false => cases hm; exact iteF (p ρ1 H1 e1 s1)
theorem w3_and1 (ha : PT3 X a t) : PW3 X (.BoolOp .And [a] pos) t := pw_and1 ha
theorem w3_and (ha : PT3 X a t) (hb : PW3 X (.BoolOp .And (b :: rest) pos) u) : PW3 X (.BoolOp .And (a :: b :: rest) pos) (tAnd3 t u) := PW.imp (pw_and ha hb) tt_and
theorem t3_w (h : PW3 X a t) : PT3 X a t := PW.pt h
theorem p3_one {op} (h : PE3 X a ma) : PE3 X (.BoolOp op [a] pos) ma := pe_one h
theorem p3_and (ha : PE3 X a ma) (hb : PE3 X (.BoolOp .And (b :: rest) pos) mb) : PE3 X (.BoolOp .And (a :: b :: rest) pos) (eAnd3 ma mb) := PE.imp (pe_and ha hb) fun σ H Q ⟨ρ, l, S, v, S', sim, ro, hm, p⟩ => by
  obtain ⟨⟨x, S1⟩, h1, hm⟩ := bnd hm
  refine ⟨ρ, l, S, x, S1, sim, ro, h1, fun ρ1 H1 x' e1 s1 r1 => ?_⟩
  cases r1 with
  | bl k =>
    refine ⟨k, rfl, ?_⟩
    cases k with
    | true => exact iteT ⟨ρ1, l, S1, v, S', s1, ro.mono e1, hm, p.ext e1⟩
    | false => cases hm; exact iteF (p ρ1 H1 _ e1 s1 (.bl false))
  | _ => cases hm
theorem a3_nil : PA3 X [] aNil := PA.imp pa_nil fun σ H Q ⟨ρ, l, S, v, S', sim, ro, hm, p⟩ => by
  cases hm
  exact p ρ H [] (Ext.refl ..) sim .nil
theorem a3_cons (ha : PE3 X a ma) (hr : PA3 X es mA) (hs : starEach (a :: es) X.env = (false, eval a X.env) :: starEach es X.env := by rfl) : PA3 X (a :: es) (aCons ma mA) := PA.imp (pa_cons ha hr hs) fun σ H Q ⟨ρ, l, S, v, S', sim, ro, hm, p⟩ => by
  obtain ⟨⟨x, S1⟩, h1, hm⟩ := bnd hm
  obtain ⟨⟨y, S2⟩, h2, hm⟩ := bnd hm
  cases hm
  exact ⟨ρ, l, S, x, S1, sim, ro, h1, fun ρ1 H1 x' e1 s1 r1 => ⟨ρ1, l, S1, y, _, s1, ro.mono e1, h2, fun ρ2 H2 vs e2 s2 r2 => p ρ2 H2 _ (e1.trans e2) s2 (.cons (r1.mono e2) r2)⟩⟩
def fTup : FM := fun xs S => if xs.length ≤ sizeLine then some (.tup xs, S) else none
def fLst : FM := fun xs S => if xs.length ≤ sizeLine then some (.ref S.length, S ++ [.lst xs]) else none
theorem ite_some {α : Type} {c : Prop} [Decidable c] {a b : α} (h : (if c then some a else none) = some b) : c ∧ a = b := by
  by_cases hc : c
  · rw [if_pos hc] at h; exact ⟨hc, Option.some.inj h⟩
  · rw [if_neg hc] at h; cases h
theorem new_tup {K : PySem.W.Frag} {ρ : List Addr} {S : Sto} {H : Hp} {xs : List D} {vs : List V} {Q : VK} (sim : Sim K ρ S H) (r : RDs ρ H xs vs) (p : Pv K ρ H (.tup xs) S Q) : ∀ a, H a = none → Q (.ref a) (upd H a (.tup vs)) := fun a ha =>
  p ρ _ _ (ext_new ha) (sim.laid ha) (.tup upd_same (r.mono (ext_new ha)))
theorem new_lst {K : PySem.W.Frag} {ρ : List Addr} {S : Sto} {H : Hp} {xs : List D} {vs : List V} {Q : VK} (sim : Sim K ρ S H) (r : RDs ρ H xs vs) (p : Pv K ρ H (.ref S.length) (S ++ [.lst xs]) Q) : ∀ a, H a = none → Q (.ref a) (upd H a (.lst vs)) := fun a ha =>
  p (ρ ++ [a]) _ _ (ext_newl ha) (sim.push ha r) (.ref (by rw [← sim.len]; exact get_self ρ a))
theorem p3_tup {x1} (h : PA3 X es mA) : PE3 X (.Tuple es x1 pos) (eCall fTup mA) := PE.imp (pe_tup h) fun σ H Q ⟨ρ, l, S, v, S', sim, ro, hm, p⟩ => by
  obtain ⟨⟨x, S1⟩, h1, hm⟩ := bnd hm
  obtain ⟨hz, e⟩ := ite_some hm
  cases e
  exact ⟨ρ, l, S, x, _, sim, ro, h1, fun ρ1 H1 vs e1 s1 r1 => ⟨by rw [← r1.length]; exact hz, new_tup s1 r1 (p.ext e1)⟩⟩
theorem p3_lst (h : PA3 X es mA) : PE3 X (.List es pos) (eCall fLst mA) := PE.imp (pe_lst h) fun σ H Q ⟨ρ, l, S, v, S', sim, ro, hm, p⟩ => by
  obtain ⟨⟨x, S1⟩, h1, hm⟩ := bnd hm
  obtain ⟨hz, e⟩ := ite_some hm
  cases e
  exact ⟨ρ, l, S, x, _, sim, ro, h1, fun ρ1 H1 vs e1 s1 r1 => ⟨by rw [← r1.length]; exact hz, new_lst s1 r1 (p.ext e1)⟩⟩
theorem te_call {K : PySem.W.Frag} {f : FM} {r : List V → Hp → VK → Prop} (h3 : Fn3 K f r) (σ : St) (H : Hp) (Q : VK) (q : te K (eCall f mA) σ H Q) : tCB r (ta K mA) σ H Q := by
  obtain ⟨ρ, l, S, v, S', sim, ro, hm, p⟩ := q
  obtain ⟨⟨x, S1⟩, h1, hm⟩ := bnd hm
  exact ⟨ρ, l, S, x, S1, sim, ro, h1, fun ρ1 H1 vs e1 s1 r1 => h3 ρ1 S1 H1 x vs v S' Q s1 r1 hm (p.ext e1)⟩
theorem p3_callB {x : Str} {p : Pos} {id : String} {f : FM} {r : List V → Hp → VK → Prop} (hc : CallR X (.builtin id) r) (h3 : Fn3 X.K f r) (hg : Gl X x) (hm : X.mg x = none) (hv : bootBuiltins x = some (.builtin id)) (ha : PA3 X (a :: es) mA) (hn : x ≠ "__name__" := by decide) (hdb : (x == ("__debug__" : Str)) = false := by decide)
    (he : starEach (a :: es) X.env = (false, eval a X.env) :: starEach es X.env := by rfl) (hpl : (backTo pos (starEach es X.env)).any (·.1) = false := by rfl) : PE3 X (.Call (.Name x p) (a :: es) [] pos) (eCall f mA) :=
  PE.imp (pe_callB hc hg hm hv ha hn hdb he hpl) (te_call h3)
theorem p3_callTy {x : Str} {p : Pos} {T : String} {f : FM} {r : List V → Hp → VK → Prop} (hc : CallR X (.type T) r) (h3 : Fn3 X.K f r) (hg : Gl X x) (hm : X.mg x = none) (hv : bootBuiltins x = some (.type T)) (ha : PA3 X (a :: es) mA) (hn : x ≠ "__name__" := by decide) (hdb : (x == ("__debug__" : Str)) = false := by decide)
    (he : starEach (a :: es) X.env = (false, eval a X.env) :: starEach es X.env := by rfl) (hpl : (backTo pos (starEach es X.env)).any (·.1) = false := by rfl) : PE3 X (.Call (.Name x p) (a :: es) [] pos) (eCall f mA) :=
  PE.imp (pe_callTy hc hg hm hv ha hn hdb he hpl) (te_call h3)
end
end L3
set_option Elab.async false
set_option maxHeartbeats 4000000
namespace L3
open PySem PySem.Spec PyProof.Rows L2
def oI (C : Int → Int → Bool) (g : Int → Int → D) : D → D → Sto → Option (D × Sto)
  | .int i, .int j, S => if C i j = true then some (g i j, S) else none
  | _, _, _ => none
def oI0 (g : Int → Int → D) : D → D → Sto → Option (D × Sto)
  | .int i, .int j, S => some (g i j, S)
  | _, _, _ => none
theorem op3_I {K : PySem.W.Frag} {C : Int → Int → Bool} {C' : Int → Int → Prop} {g : Int → Int → D} {g' : Int → Int → V} (hC : ∀ i j, C i j = true → C' i j) (hg : ∀ ρ H i j, RD ρ H (g i j) (g' i j)) : Op3 K (oI C g) (rI C' g') := by
  intro ρ S H x y x' y' v S' Q sim rx ry h p
  unfold oI at h
  split at h
  · rename_i i j
    cases rx; cases ry
    obtain ⟨hc, e⟩ := ite_some h
    cases e
    exact ⟨i, j, rfl, rfl, hC i j hc, p ρ H _ (Ext.refl ..) sim (hg ρ H i j)⟩
  · cases h
theorem op3_I0 {K : PySem.W.Frag} {g : Int → Int → D} {g' : Int → Int → V} (hg : ∀ ρ H i j, RD ρ H (g i j) (g' i j)) : Op3 K (oI0 g) (rI0 g') := by
  intro ρ S H x y x' y' v S' Q sim rx ry h p
  unfold oI0 at h
  split at h
  · rename_i i j
    cases rx; cases ry
    cases h
    exact ⟨i, j, rfl, rfl, p ρ H _ (Ext.refl ..) sim (hg ρ H i j)⟩
  · cases h
theorem Op3.or {K : PySem.W.Frag} {f : D → D → Sto → Option (D × Sto)} {g : D → D → Sto → Option (D × Sto)} {r r' : R2} (h : Op3 K f r) (h' : Op3 K g r') : Op3 K (fun x y S => match f x y S with | some v => some v | none => g x y S) (fun x y H Q => r x y H Q ∨ r' x y H Q) := by
  intro ρ S H x y x' y' v S' Q sim rx ry hm p
  dsimp only at hm
  cases e : f x y S with
  | some w => rw [e] at hm; cases hm; exact .inl (h ρ S H x y x' y' _ _ Q sim rx ry e p)
  | none => rw [e] at hm; exact .inr (h' ρ S H x y x' y' _ _ Q sim rx ry hm p)
abbrev dAdd := oI0 fun i j => .int (i + j)
abbrev dSub := oI0 fun i j => .int (i - j)
abbrev dDiv := oI (fun i j => decide (0 < j ∧ j < 1073741824)) fun i j => .int (i / j)
abbrev dMod := oI (fun i j => decide (0 < j)) fun i j => .int (i % j)
abbrev dPow := oI (fun i j => decide (0 ≤ j ∧ j ≤ 1000000 ∧ i.natAbs < 2 ^ 64)) fun i j => .int (i ^ j.toNat)
abbrev dLt := oI0 fun i j => .bl (decide (i < j))
abbrev dGt := oI0 fun i j => .bl (decide (j < i))
abbrev dGe := oI0 fun i j => .bl (decide (j ≤ i))
section
variable {X : Cx} {a b : Expr} {ma mb : EM} {pos : Pos}
theorem p3_sub (ha : PE3 X a ma) (hb : PE3 X b mb) : PE3 X (.BinOp a .Sub b pos) (eOp dSub ma mb) := p3_op op_sub (op3_I0 fun _ _ _ _ => .int _) ha hb
theorem p3_div (ha : PE3 X a ma) (hb : PE3 X b mb) : PE3 X (.BinOp a .FloorDiv b pos) (eOp dDiv ma mb) := p3_op op_fdiv (op3_I (fun i j h => by first | (unfold CMul; exact of_decide_eq_true h) | (unfold CDiv; exact of_decide_eq_true h) | (unfold CPow; exact of_decide_eq_true h) | exact of_decide_eq_true h) fun _ _ _ _ => .int _) ha hb
theorem p3_mod (ha : PE3 X a ma) (hb : PE3 X b mb) : PE3 X (.BinOp a .Mod b pos) (eOp dMod ma mb) := p3_op op_mod (op3_I (fun i j h => by first | (unfold CMul; exact of_decide_eq_true h) | (unfold CDiv; exact of_decide_eq_true h) | (unfold CPow; exact of_decide_eq_true h) | exact of_decide_eq_true h) fun _ _ _ _ => .int _) ha hb
theorem p3_pow (ha : PE3 X a ma) (hb : PE3 X b mb) : PE3 X (.BinOp a .Pow b pos) (eOp dPow ma mb) := p3_op op_pow (op3_I (fun i j h => by first | (unfold CMul; exact of_decide_eq_true h) | (unfold CDiv; exact of_decide_eq_true h) | (unfold CPow; exact of_decide_eq_true h) | exact of_decide_eq_true h) fun _ _ _ _ => .int _) ha hb
theorem t3_lt (ha : PE3 X a ma) (hb : PE3 X b mb) : PT3 X (.Compare a [.Lt] [b] pos) (tE (eOp dLt ma mb)) := t3_cmp op_lt (op3_I0 fun _ _ _ _ => .bl _) ha hb (nomark b)
theorem t3_gt (ha : PE3 X a ma) (hb : PE3 X b mb) : PT3 X (.Compare a [.Gt] [b] pos) (tE (eOp dGt ma mb)) := t3_cmp op_gt (op3_I0 fun _ _ _ _ => .bl _) ha hb (nomark b)
theorem t3_ge (ha : PE3 X a ma) (hb : PE3 X b mb) : PT3 X (.Compare a [.GtE] [b] pos) (tE (eOp dGe ma mb)) := t3_cmp op_ge (op3_I0 fun _ _ _ _ => .bl _) ha hb (nomark b)
end
def sEq : D → D → Option Bool
  | .non, .non => some true | .non, .int _ => some false | .int _, .non => some false | .non, .bl _ => some false | .bl _, .non => some false | .non, .str _ => some false | .str _, .non => some false
  | .int i, .int j => some (decide (i = j)) | .bl i, .bl j => some (decide (i = j)) | .str i, .str j => some (decide (i = j))
  | .int _, .str _ => some false | .str _, .int _ => some false | .bl _, .str _ => some false | .str _, .bl _ => some false
  | _, _ => none
def dEq : D → D → Sto → Option (D × Sto) := fun x y S => (sEq x y).bind fun b => some (.bl b, S)
def dNe : D → D → Sto → Option (D × Sto) := fun x y S => (sEq x y).bind fun b => some (.bl (!b), S)
theorem sEq_ok {ρ : List Addr} {H : Hp} {x y : D} {x' y' : V} {b : Bool} (rx : RD ρ H x x') (ry : RD ρ H y y') (h : sEq x y = some b) : scal x' y' = true ∧ decide (x' = y') = b := by
  cases rx <;> cases ry <;> first
    | (unfold sEq at h; cases h; exact ⟨rfl, by simp⟩)
    | (unfold sEq at h; cases h; exact ⟨rfl, by simp; rfl⟩)
    | (unfold sEq at h; cases h)
theorem op3_eq {K : PySem.W.Frag} : Op3 K dEq rEq := by
  intro ρ S H x y x' y' v S' Q sim rx ry h p
  obtain ⟨b, h1, h⟩ := bnd h
  cases h
  obtain ⟨h2, h3⟩ := sEq_ok rx ry h1
  exact ⟨h2, by rw [h3]; exact p ρ H _ (Ext.refl ..) sim (.bl b)⟩
theorem op3_ne {K : PySem.W.Frag} : Op3 K dNe rNe := by
  intro ρ S H x y x' y' v S' Q sim rx ry h p
  obtain ⟨b, h1, h⟩ := bnd h
  cases h
  obtain ⟨h2, h3⟩ := sEq_ok rx ry h1
  exact ⟨h2, by rw [h3]; exact p ρ H _ (Ext.refl ..) sim (.bl _)⟩
def isNon : D → Bool
  | .non => true
  | _ => false
def dIs : D → D → Sto → Option (D × Sto)
  | x, .non, S => some (.bl (isNon x), S)
  | _, _, _ => none
def dIsNot : D → D → Sto → Option (D × Sto)
  | x, .non, S => some (.bl (!isNon x), S)
  | _, _, _ => none
theorem isNon_ok {ρ : List Addr} {H : Hp} {x : D} {x' : V} (r : RD ρ H x x') : decide (x' = .non) = isNon x := by
  cases r <;> simp [isNon]
theorem op3_isnot {K : PySem.W.Frag} : Op3 K dIsNot (fun x y H Q => y = .non ∧ Q (.bl (!decide (x = .non))) H) := by
  intro ρ S H x y x' y' v S' Q sim rx ry h p
  unfold dIsNot at h
  split at h
  · cases h; cases ry
    exact ⟨rfl, by rw [isNon_ok rx]; exact p ρ H _ (Ext.refl ..) sim (.bl _)⟩
  · cases h
section
variable {X : Cx} {a b : Expr} {ma mb : EM} {pos : Pos}
theorem p3_ne (ha : PE3 X a ma) (hb : PE3 X b mb) : PE3 X (.Compare a [.NotEq] [b] pos) (eOp dNe ma mb) := p3_cmp op_ne op3_ne ha hb (nomark b)
theorem p3_isnot (ha : PE3 X a ma) (hb : PE3 X b mb) : PE3 X (.Compare a [.IsNot] [b] pos) (eOp dIsNot ma mb) := p3_cmp op_notN op3_isnot ha hb (nomark b)
theorem t3_eq (ha : PE3 X a ma) (hb : PE3 X b mb) : PT3 X (.Compare a [.Eq] [b] pos) (tE (eOp dEq ma mb)) := t3_cmp op_eq op3_eq ha hb (nomark b)
theorem t3_ne (ha : PE3 X a ma) (hb : PE3 X b mb) : PT3 X (.Compare a [.NotEq] [b] pos) (tE (eOp dNe ma mb)) := t3_cmp op_ne op3_ne ha hb (nomark b)
theorem t3_isnot (ha : PE3 X a ma) (hb : PE3 X b mb) : PT3 X (.Compare a [.IsNot] [b] pos) (tE (eOp dIsNot ma mb)) := t3_cmp op_notN op3_isnot ha hb (nomark b)
end
def dIx : D → D → Sto → Option (D × Sto)
  | .tup xs, .int i, S => (atI xs i).bind fun v => some (v, S)
  | .ref n, .int i, S => (lstOf S n).bind fun xs => (atI xs i).bind fun v => some (v, S)
  | _, _, _ => none
theorem atI_rd {ρ : List Addr} {H : Hp} {xs : List D} {vs : List V} {i : Int} {x : D} (r : RDs ρ H xs vs) (h : atI xs i = some x) : ∃ v, atI vs i = some v ∧ RD ρ H x v := by
  unfold atI at h ⊢
  rw [← r.length]
  cases e : ixN xs.length i with
  | none => rw [e] at h; cases h
  | some j =>
    rw [e] at h
    exact r.get (i := j) h
theorem op3_ix {K : PySem.W.Frag} : Op3 K dIx (rIx K) := by
  intro ρ S H x y x' y' v S' Q sim rx ry h p
  unfold dIx at h
  split at h
  · cases ry
    obtain ⟨w, h1, h⟩ := bnd h
    cases h
    cases rx with
    | tup ha r =>
      obtain ⟨u, h2, r2⟩ := atI_rd r h1
      exact .inr (.inl ⟨_, _, _, u, rfl, rfl, SqT.of ha, h2, p ρ H u (Ext.refl ..) sim r2⟩)
  · cases ry
    obtain ⟨xs, h0, h⟩ := bnd h
    obtain ⟨w, h1, h⟩ := bnd h
    cases h
    cases rx with
    | ref hn =>
      obtain ⟨a, vs, ha, sq, r⟩ := sim.lstOf h0
      rw [ha] at hn; cases hn
      obtain ⟨u, h2, r2⟩ := atI_rd r h1
      exact .inl ⟨_, _, _, u, rfl, rfl, sq, h2, p ρ H u (Ext.refl ..) sim r2⟩
  · cases h
section
variable {X : Cx} {a b : Expr} {ma mb : EM} {pos : Pos}
end
abbrev OM := Lo → Sto → Option (Option Int × Sto)
def oNone : OM := fun _ S => some (none, S)
def oSome (m : EM) : OM := fun l S => (m l S).bind fun p => match p.1 with
  | .int i => some (some i, p.2)
  | _ => none
def cutD (xs : List D) (lo hi : Option Int) : List D := (xs.drop (HT.sIx xs.length 0 lo)).take (HT.sIx xs.length xs.length hi - HT.sIx xs.length 0 lo)
section
variable {X : Cx} {a b : Expr} {ma mb : EM} {pos p2 : Pos} {lo hi : Option Expr} {ml mh : OM}
theorem PO.imp {e : Option Expr} {t u : TO} (h : PO X e t) (i : ∀ σ H Q, u σ H Q → t σ H Q) : PO X e u := fun pins s σ H Q I q => h pins s σ H Q I (i _ _ _ q)
end
end L3
namespace HT
open PySem PyProof.Rows
section
variable {prog : Program} {w : World} {A : Around} {E : Value → Shared → Prop} {s : Shared}
end
end HT
namespace L3
open PySem PySem.Spec PyProof.Rows L2
section
variable {X : Cx} {a b : Expr} {ma mb : EM} {pos p2 : Pos} {lo hi : Option Expr} {ml mh : OM}
end
def dCatT : D → D → Sto → Option (D × Sto)
  | .tup xs, .tup ys, S => if xs.length + ys.length ≤ sizeLine then some (.tup (xs ++ ys), S) else none
  | _, _, _ => none
def rCatT0 (K : PySem.W.Frag) : R2 := fun x y H Q => ∃ a b ys, x = .ref a ∧ y = .ref b ∧ SqT K H a [] ∧ SqT K H b ys ∧ Q (.ref b) H
theorem op_catT0 {X : Cx} : OpR X (binaryOp .Add) (rCatT0 X.K) := by
  intro pins s σ H x y v u Q I rx ry h
  obtain ⟨a, b, ys, rfl, rfl, ha, hb, q⟩ := h
  cases rx
  cases ry
  obtain ⟨its, r1, p1, _⟩ := I.tuple ha
  obtain ⟨its2, r2, p2, _⟩ := I.tuple hb
  cases r1
  obtain ⟨⟨cls, dd, data, sl⟩, ho, hc, n, hd⟩ := id p1
  obtain ⟨⟨cls2, dd2, data2, sl2⟩, ho2, hc2, n2, hd2⟩ := id p2
  simp only at hc hd hc2 hd2
  subst hc hd hc2 hd2
  exact concat_meets ⟨_, ho, rfl⟩ ⟨_, ho2, rfl⟩ noFill_tuple_add seq_tuple_add PySem.F.slot_tuple_add PySem.F.entry_tuple_add (PySem.F.args_tuple_add_2 _ _)
      (tuple_addW0 a b ([] : List Value).toArray its2.toArray n n2 dd dd2 sl sl2 (by simp)) ⟨ho, ho2, ⟨.ref b, H, I, rfl, q⟩⟩
theorem op3_catT {K : PySem.W.Frag} : Op3 K dCatT (fun x y H Q => rCatT K x y H Q ∨ rCatT0 K x y H Q) := by
  intro ρ S H x y x' y' v S' Q sim rx ry h p
  unfold dCatT at h
  split at h
  · obtain ⟨hz, e⟩ := ite_some h
    cases e
    cases rx with
    | @tup xs a vs ha r =>
      cases ry with
      | @tup ys b ws hb q =>
        cases r with
        | nil => exact .inr ⟨a, b, ws, rfl, rfl, SqT.of ha, SqT.of hb, p ρ H _ (Ext.refl ..) sim (.tup hb q)⟩
        | cons r1 r2 =>
          refine .inl ⟨a, b, _, ws, rfl, rfl, SqT.of ha, SqT.of hb, by simp, by rw [← (RDs.cons r1 r2).length, ← q.length]; exact hz, fun e => ?_, fun _ => ?_⟩
          · subst e
            cases q
            rw [List.append_nil] at p
            exact p ρ H _ (Ext.refl ..) sim (.tup ha (.cons r1 r2))
          · exact new_tup sim ((RDs.cons r1 r2).append q) p
  · cases h
section
variable {X : Cx} {a b : Expr} {ma mb : EM} {pos : Pos}
end
end L3
set_option Elab.async false
set_option maxHeartbeats 4000000
namespace L3
open PySem PySem.Spec PyProof.Rows L2
def fLen : FM
  | [.tup xs], S => some (.int xs.length, S)
  | [.ref n], S => (lstOf S n).bind fun xs => some (.int xs.length, S)
  | _, _ => none
def fAbs : FM
  | [.int i], S => some (.int (if i < 0 then -i else i), S)
  | _, _ => none
def fInt : FM
  | [.int i], S => some (.int i, S)
  | [.bl b], S => some (.int (if b then 1 else 0), S)
  | _, _ => none
def fTuple : FM
  | [.tup xs], S => some (.tup xs, S)
  | [.ref n], S => (lstOf S n).bind fun xs => some (.tup xs, S)
  | _, _ => none
section
variable {K : PySem.W.Frag}
theorem fn3_len : Fn3 K fLen (fun xs H Q => ∃ p ys, xs = [.ref p] ∧ (SqL K H p ys ∨ SqT K H p ys) ∧ Q (.int ys.length) H) := by
  intro ρ S H xs vs v S' Q sim r h p
  unfold fLen at h
  split at h
  · cases h
    obtain ⟨w, rfl, rw'⟩ := r.one
    cases rw' with
    | tup ha r2 => exact ⟨_, _, rfl, .inr (SqT.of ha), by rw [← r2.length]; exact p ρ H _ (Ext.refl ..) sim (.int _)⟩
  · obtain ⟨ys, h1, h⟩ := bnd h
    cases h
    obtain ⟨w, rfl, rw'⟩ := r.one
    obtain ⟨a, us, ha, sq, r2⟩ := sim.lstOf h1
    cases rw' with
    | ref hn =>
      rw [ha] at hn; cases hn
      exact ⟨_, _, rfl, .inl sq, by rw [← r2.length]; exact p ρ H _ (Ext.refl ..) sim (.int _)⟩
  · cases h
theorem fn3_abs : Fn3 K fAbs (fun xs H Q => ∃ i, xs = [.int i] ∧ Q (.int (if i < 0 then -i else i)) H) := by
  intro ρ S H xs vs v S' Q sim r h p
  unfold fAbs at h
  split at h
  · cases h
    obtain ⟨w, rfl, rw'⟩ := r.one
    cases rw'
    exact ⟨_, rfl, p ρ H _ (Ext.refl ..) sim (.int _)⟩
  · cases h
theorem fn3_tuple : Fn3 K fTuple (fun xs H Q => ∃ p ys, xs = [.ref p] ∧ ((SqL K H p ys ∧ ∀ l, H l = none → Q (.ref l) (upd H l (.tup ys))) ∨ (SqT K H p ys ∧ Q (.ref p) H))) := by
  intro ρ S H xs vs v S' Q sim r h p
  unfold fTuple at h
  split at h
  · cases h
    obtain ⟨w, rfl, rw'⟩ := r.one
    cases rw' with
    | tup ha r2 => exact ⟨_, _, rfl, .inr ⟨SqT.of ha, p ρ H _ (Ext.refl ..) sim (.tup ha r2)⟩⟩
  · obtain ⟨ys, h1, h⟩ := bnd h
    cases h
    obtain ⟨w, rfl, rw'⟩ := r.one
    obtain ⟨a, us, ha, sq, r2⟩ := sim.lstOf h1
    cases rw' with
    | ref hn =>
      rw [ha] at hn; cases hn
      exact ⟨_, _, rfl, .inl ⟨sq, new_tup sim r2 p⟩⟩
  · cases h
end
def tyD (S : Sto) : D → Option String
  | .non => some "NoneType" | .bl _ => some "bool" | .int _ => some "int" | .str _ => some "str" | .tup _ => some "tuple"
  | .ref n => match S[n]? with
    | some (.lst _) => some "list"
    | some (.dct _) => some "dict"
    | _ => none
  | .fn _ => none
def isI (T U : String) : Bool := T == U || (T == "bool" && U == "int")
def fIsI (U : String) : D → Sto → Option (D × Sto) := fun x S => (tyD S x).bind fun T => some (.bl (isI T U), S)
def mAppend : D → List D → Sto → Option (D × Sto)
  | .ref n, [x], S => match S[n]? with
    | some (.lst xs) => if xs.length < sizeLine then some (.non, S.set n (.lst (xs ++ [x]))) else none
    | _ => none
  | _, _, _ => none
theorem RDs.dropLast {ρ : List Addr} {H : Hp} {xs : List D} {vs : List V} (h : RDs ρ H xs vs) : RDs ρ H xs.dropLast vs.dropLast := by
  rw [List.dropLast_eq_take, List.dropLast_eq_take, h.length]
  exact h.take _
section
variable {K : PySem.W.Frag}
theorem mt3_append : Mt3 K mAppend rAppend := by
  intro ρ S H x x' xs vs v S' Q sim rx r h p
  unfold mAppend at h
  split at h
  · split at h
    · rename_i n y S ys e
      obtain ⟨hz, e2⟩ := ite_some h
      cases e2
      obtain ⟨w, rfl, rw'⟩ := r.one
      obtain ⟨a, us, ha, hH, r2⟩ := sim.lst e
      cases rx with
      | ref hn =>
        rw [ha] at hn; cases hn
        exact ⟨a, us, w, rfl, rfl, hH, by rw [← r2.length]; exact hz, p ρ _ _ (ext_upd ha hH) (sim.set ha e hH (r2.append (.cons rw' .nil))) .non⟩
    · cases h
  · cases h
end
def recvL : D → Sto → Option (List D)
  | .ref n, S => lstOf S n
  | _, _ => none
def eMethL (f : D → List D → Sto → Option (D × Sto)) (o : EM) (as : AM) : EM := fun l S => (o l S).bind fun p => (recvL p.1 p.2).bind fun _ => (as l p.2).bind fun q => f p.1 q.1 q.2
section
variable {X : Cx} {a o e : Expr} {es : List Expr} {mo : EM} {mA : AM} {name : Str} {apos cpos pos : Pos} {id : String} {f : D → List D → Sto → Option (D × Sto)} {r : V → List V → Hp → VK → Prop}
theorem recv_ok {K : PySem.W.Frag} {ρ : List Addr} {S : Sto} {H : Hp} {x : D} {x' : V} {xs : List D} (sim : Sim K ρ S H) (rx : RD ρ H x x') (h : recvL x S = some xs) : tyV K "list" x' H := by
  unfold recvL at h
  split at h
  · obtain ⟨a, us, ha, sq, r2⟩ := sim.lstOf h
    cases rx with
    | ref hn =>
      rw [ha] at hn; cases hn
      exact .inl ⟨rfl, us, sq⟩
  · cases h
theorem p3_bm (slot : Slot "list" name id) (hty : typeOf (.builtin id) = pure (.type "method_descriptor")) (hm : MtM X id r) (h3 : Mt3 X.K f r) (ho : PE3 X o mo) (ha : PA3 X (e :: es) mA)
    (hbase : attributeBase o name X.env (eval o X.env) = eval o X.env := by rfl)
    (hfew : ((backTo cpos (starEach (e :: es) X.env)).all (fun x => !x.1) && (backToKw cpos (keywordEach [] X.env)).all (fun x => x.1.isSome)
      && decide ((e :: es).length + ([] : List Keyword).length + (if ([] : List Keyword).isEmpty then 0 else 1) < 30)) = true := by rfl)
    (hline : (apos.endLine == cpos.line) = true := by rfl) (hs : starEach (e :: es) X.env = (false, eval e X.env) :: starEach es X.env := by rfl) (hplain : (backTo cpos (starEach es X.env)).any (·.1) = false := by rfl) :
    PE3 X (.Call (.Attribute o name apos) (e :: es) [] cpos) (eMethL f mo mA) :=
  PE.imp (pe_bm PySem.F.plainAttrs_list slot hty hm ho ha hbase hfew hline hs hplain) fun σ H Q ⟨ρ, l, S, v, S', sim, ro, hq, p⟩ => by
    obtain ⟨⟨x, S1⟩, h1, hq⟩ := bnd hq
    obtain ⟨xs, h2, hq⟩ := bnd hq
    obtain ⟨⟨ys, S2⟩, h4, hq⟩ := bnd hq
    exact ⟨ρ, l, S, x, S1, sim, ro, h1, fun ρ1 H1 x' e1 s1 r1 => ⟨recv_ok s1 r1 h2, ρ1, l, S1, ys, S2, s1, ro.mono e1, h4, fun ρ2 H2 vs e2 s2 r2 => h3 ρ2 S2 H2 x x' ys vs v S' Q s2 (r1.mono e2) r2 hq (p.ext (e1.trans e2))⟩⟩
theorem p3_append {m : EM} (ho : PE3 X o mo) (he : PE3 X e m)
    (hbase : attributeBase o "append" X.env (eval o X.env) = eval o X.env := by rfl)
    (hfew : ((backTo cpos (starEach [e] X.env)).all (fun x => !x.1) && (backToKw cpos (keywordEach [] X.env)).all (fun x => x.1.isSome)
      && decide ([e].length + ([] : List Keyword).length + (if ([] : List Keyword).isEmpty then 0 else 1) < 30)) = true := by rfl)
    (hline : (apos.endLine == cpos.line) = true := by rfl) (hs : starEach [e] X.env = (false, eval e X.env) :: starEach [] X.env := by rfl) :
    PE3 X (.Call (.Attribute o "append" apos) [e] [] cpos) (eMethL mAppend mo (aCons m aNil)) :=
  p3_bm PySem.F.slot_list_append PySem.F.type_list_append mt_append mt3_append ho (a3_cons he a3_nil hs) hbase hfew hline hs
end
section
variable {X : Cx} {a : Expr} {ma : EM} {pos p p2 : Pos}
end
def sp3 (K : PySem.W.Frag) (n : Nat) (f : FM) : Sp := fun vs H Q _ => vs.length = n ∧ ∃ ρ ds S v S', Sim K ρ S H ∧ RDs ρ H ds vs ∧ f ds S = some (v, S') ∧ Pv K ρ H v S' Q
section
variable {X : Cx} {a : Expr} {es : List Expr} {mA : AM} {pos p : Pos} {x : Str} {k : Nat} {f : Addr} {fd : FuncData} {ps : List Str} {m : FM}
theorem p3_call {n : Nat} (F : FnOk X.prog X.w X.K X.mg X.base CX0 k f fd ps (sp3 X.K n m)) (hr : Room k X.A) (hg : Gl X x) (hm : X.mg x = some (.ref f)) (hk : PySem.W.keepIn X.K (.ref f) = true) (hb : Binds X.K fd ps [])
    (ha : PA3 X (a :: es) mA) (hl : ∀ l S v S', mA l S = some (v, S') → v.length = n) (hdb : (x == ("__debug__" : Str)) = false := by decide) (he : starEach (a :: es) X.env = (false, eval a X.env) :: starEach es X.env := by rfl) (hpl : (backTo pos (starEach es X.env)).any (·.1) = false := by rfl) :
    PE3 X (.Call (.Name x p) (a :: es) [] pos) (eCall m mA) :=
  PE.imp (pe_call F hr hg hm hk hb .nil pass0 ha hdb he hpl) fun σ H Q ⟨ρ, l, S, v, S', sim, ro, hq, p⟩ => by
    obtain ⟨⟨xs, S1⟩, h1, hq⟩ := bnd hq
    exact ⟨ρ, l, S, xs, S1, sim, ro, h1, fun ρ1 H1 vs e1 s1 r1 => ⟨by rw [List.append_nil, ← r1.length]; exact hl _ _ _ _ h1, ρ1, xs, S1, v, S', s1, by rw [List.append_nil]; exact r1, hq, p.ext e1⟩⟩
theorem len_nil : ∀ l S v S', aNil l S = some (v, S') → v.length = 0 := fun l S v S' h => by cases h; rfl
theorem len_cons {n : Nat} {m : EM} {mA : AM} (h : ∀ l S v S', mA l S = some (v, S') → v.length = n) : ∀ l S v S', aCons m mA l S = some (v, S') → v.length = n + 1 := fun l S v S' q => by
  obtain ⟨⟨x, S1⟩, h1, q⟩ := bnd q
  obtain ⟨⟨y, S2⟩, h2, q⟩ := bnd q
  cases q
  rw [List.length_cons, h _ _ _ _ h2]
end
end L3
set_option Elab.async false
set_option maxHeartbeats 4000000
namespace L3
open PySem PySem.Spec PyProof.Rows L2
def sNext : SM := fun l S => some (.nx, l, S)
def sBreak : SM := fun l S => some (.bk, l, S)
def sCont : SM := fun l S => some (.ct, l, S)
def sSeq (a b : SM) : SM := fun l S => (a l S).bind fun p => match p.1 with
  | .nx => b p.2.1 p.2.2
  | f => some (f, p.2)
def sDrop (e : EM) : SM := fun l S => (e l S).bind fun p => some (.nx, l, p.2)
def sRet (e : EM) : SM := fun l S => (e l S).bind fun p => some (.rt p.1, l, p.2)
def sIf (c : TM) (a b : SM) : SM := fun l S => (c l S).bind fun p => if p.1 = true then a l p.2 else b l p.2
def sAsg (e : EM) (g : GM) : SM := fun l S => (e l S).bind fun p => (g p.1 l p.2).bind fun q => some (.nx, q)
def gName3 (i : Nat) : GM := fun d l S => some (l.set i (some d), S)
def gNil3 : GsM
  | [], l, S => some (l, S)
  | _, _, _ => none
def gCons3 (g : GM) (r : GsM) : GsM
  | x :: xs, l, S => (g x l S).bind fun p => r xs p.1 p.2
  | _, _, _ => none
def gTup3 (n : Nat) (g : GsM) : GM
  | .tup xs, l, S => if xs.length = n then g xs l S else none
  | _, _, _ => none
def setIx : D → D → D → Sto → Option Sto
  | .ref n, .int i, v, S => match S[n]? with
    | some (.lst xs) => (ixN xs.length i).bind fun j => some (S.set n (.lst (xs.set j v)))
    | _ => none
  | _, _, _, _ => none
def gSub3 (o i : EM) : GM := fun v l S => (o l S).bind fun p => (i l p.2).bind fun q => (setIx p.1 q.1 v q.2).bind fun S' => some (l, S')
section
variable {X : Cx} {st : Stmt} {rest : List Stmt} {m n : SM} {e c : Expr} {me : EM} {pos : Pos}
theorem ss3_nil : PSs3 X [] sNext := PSs.imp pss_nil fun E σ H ⟨ρ, l, S, f, l', S', sim, ro, hm, p⟩ => by
  cases hm
  exact p ρ H σ (Ext.refl ..) sim ro
theorem ss3_cons (h1 : PS3 X st m) (h2 : PSs3 X rest n) : PSs3 X (st :: rest) (sSeq m n) := PSs.imp (pss_cons h1 h2) fun E σ H ⟨ρ, l, S, f, l', S', sim, ro, hm, p⟩ => by
  obtain ⟨⟨g, l1, S1⟩, q1, hm⟩ := bnd hm
  refine ⟨ρ, l, S, g, l1, S1, sim, ro, q1, fun ρ1 H1 σ1 e1 s1 r1 => ?_⟩
  cases g with
  | nx => exact ⟨ρ1, l1, S1, f, l', S', s1, r1, hm, fun ρ2 H2 σ2 e2 s2 r2 => p ρ2 H2 σ2 (e1.trans e2) s2 r2⟩
  | bk => cases hm; exact p ρ1 H1 σ1 e1 s1 r1
  | ct => cases hm; exact p ρ1 H1 σ1 e1 s1 r1
  | rt d => cases hm; exact p ρ1 H1 σ1 e1 s1 r1
theorem ss3_one (h1 : PS3 X st m) : PSs3 X [st] m := pss_one h1
theorem s3_expr (he : PE3 X e me) (hs : swapsWith e none pos.line X.env = pure false := by rfl) : PS3 X (.Expr e pos) (sDrop me) := PS.imp (ps_expr he hs) fun E σ H ⟨ρ, l, S, f, l', S', sim, ro, hm, p⟩ => by
  obtain ⟨⟨x, S1⟩, q1, hm⟩ := bnd hm
  cases hm
  exact ⟨ρ, l, S, x, _, sim, ro, q1, fun ρ1 H1 x' e1 s1 _ => p ρ1 H1 σ e1 s1 (ro.mono e1)⟩
theorem s3_ret (he : PE3 X e me) : PS3 X (.Return (some e) pos) (sRet me) := PS.imp (ps_ret he) fun E σ H ⟨ρ, l, S, f, l', S', sim, ro, hm, p⟩ => by
  obtain ⟨⟨x, S1⟩, q1, hm⟩ := bnd hm
  cases hm
  exact ⟨ρ, l, S, x, _, sim, ro, q1, fun ρ1 H1 x' e1 s1 r1 => p ρ1 H1 σ e1 s1 (ro.mono e1) x' r1⟩
theorem s3_if {c : Expr} {a b : List Stmt} {mc : TM} (hc : PT3 X c mc) (ha : PSs3 X a m) (hb : PSs3 X b n) : PS3 X (.If c a b pos) (sIf mc m n) := PS.imp (ps_if hc ha hb) fun E σ H ⟨ρ, l, S, f, l', S', sim, ro, hm, p⟩ => by
  obtain ⟨⟨x, S1⟩, q1, hm⟩ := bnd hm
  refine ⟨ρ, l, S, x, S1, sim, ro, q1, fun ρ1 H1 e1 s1 => ?_⟩
  cases x with
  | true => exact iteT ⟨ρ1, l, S1, f, l', S', s1, ro.mono e1, hm, fun ρ2 H2 σ2 e2 s2 r2 => p ρ2 H2 σ2 (e1.trans e2) s2 r2⟩
  | false => exact iteF ⟨ρ1, l, S1, f, l', S', s1, ro.mono e1, hm, fun ρ2 H2 σ2 e2 s2 r2 => p ρ2 H2 σ2 (e1.trans e2) s2 r2⟩
variable {tgt o i : Expr} {g : GM} {gs : GsM} {ts' : List Expr} {mo mi : EM}
theorem g3_name (j : Nat) {x : Str} (hN : X.N.Nodup) (hi : X.N[j]? = some x := by rfl) (hx : Loc X.env.scope x := by first | exact Or.inl rfl | exact Or.inr rfl) (hf : X.fn x = true ∨ X.env.scope.names.lookup x = some .local := by first | exact .inl rfl | exact .inr rfl | assumption) : PG3 X (.Name x pos) (gName3 j) :=
  PG.imp (pg_name hN hi hx hf) fun v σ H Q ⟨ρ, l, S, d, l', S', sim, ro, rd, hm, p⟩ => by
    cases hm
    exact p ρ H _ (Ext.refl ..) sim (ro.set j rd)
theorem gs3_nil : PGs3 X [] gNil3 := PGs.imp pgs_nil fun v σ H Q ⟨ρ, l, S, d, l', S', sim, ro, rd, hm, p⟩ => by
  cases rd with
  | nil => cases hm; exact ⟨rfl, p ρ H _ (Ext.refl ..) sim ro⟩
  | cons _ _ => cases hm
theorem gs3_cons (h1 : PG3 X tgt g) (h2 : PGs3 X ts' gs) (hs : (assignEach (tgt :: ts') X.env).map (·.2) = assign tgt X.env :: (assignEach ts' X.env).map (·.2) := by rfl) : PGs3 X (tgt :: ts') (gCons3 g gs) := PGs.imp (pgs_cons h1 h2 hs) fun v σ H Q ⟨ρ, l, S, d, l', S', sim, ro, rd, hm, p⟩ => by
  cases rd with
  | nil => cases hm
  | @cons x v' xs vs r1 r2 =>
    obtain ⟨⟨l1, S1⟩, q1, hm⟩ := bnd hm
    exact ⟨v', vs, rfl, ρ, l, S, x, l1, S1, sim, ro, r1, q1, fun ρ1 H1 σ1 e1 s1 ro1 => ⟨ρ1, l1, S1, xs, l', S', s1, ro1, r2.mono e1, hm, fun ρ2 H2 σ2 e2 s2 ro2 => p ρ2 H2 σ2 (e1.trans e2) s2 ro2⟩⟩
theorem g3_tup {es : List Expr} {k n : Nat} (hc : X.calm = true) (h : PGs3 X es gs) (hn : (assignEach es X.env).length = n := by rfl) (hst : (assignEach es X.env).findIdx? (·.1) = none := by rfl) : PG3 X (.Tuple es k pos) (gTup3 n gs) :=
  PG.imp (pg_tup hc h hn hst) fun v σ H Q ⟨ρ, l, S, d, l', S', sim, ro, rd, hm, p⟩ => by
    cases rd with
    | @tup xs a vs ha r =>
      have hm : (if xs.length = n then gs xs l S else none) = some (l', S') := hm
      by_cases hl : xs.length = n
      · rw [if_pos hl] at hm
        exact ⟨a, vs, rfl, SqT.of ha, by rw [← r.length]; exact hl, ρ, l, S, xs, l', S', sim, ro, r, hm, p⟩
      · rw [if_neg hl] at hm; cases hm
    | _ => cases hm
theorem set3_ok {K : PySem.W.Frag} {ρ : List Addr} {S S' : Sto} {H : Hp} {x y z : D} {x' y' z' : V} {Q : Hp → Prop} (sim : Sim K ρ S H) (rx : RD ρ H x x') (ry : RD ρ H y y') (rz : RD ρ H z z') (h : setIx x y z S = some S') (q : ∀ H', Ext ρ H ρ H' → Sim K ρ S' H' → Q H') : rSetL x' y' z' H Q := by
  unfold setIx at h
  split at h
  · split at h
    · rename_i hx
      obtain ⟨j, hj, h⟩ := bnd h
      cases h
      cases ry
      obtain ⟨a, us, ha', hH, r3⟩ := sim.lst hx
      cases rx with
      | ref hn =>
        rw [ha'] at hn; cases hn
        exact ⟨a, us, _, j, rfl, rfl, hH, by rw [← r3.length]; exact hj, q _ (ext_upd ha' hH) (sim.set ha' hx hH (r3.set rz j))⟩
    · cases h
  · cases h
theorem g3_sub (ho : PE3 X o mo) (hi : PE3 X i mi)
    (ha : ∀ v, assign (.Subscript o i pos) X.env v = (do
      let ov ← holding [v] (eval o X.env)
      let iv ← holding [v, ov] (eval i X.env)
      standAt pos
      holding [v, ov, iv] (setItem ov iv v)
      release [v, ov, iv] []) := by intro _; rfl) : PG3 X (.Subscript o i pos) (gSub3 mo mi) :=
  PG.imp (pg_sub ho hi set_list ha) fun v σ H Q ⟨ρ, l, S, d, l', S', sim, ro, rd, hm, p⟩ => by
    obtain ⟨⟨x, S1⟩, q1, hm⟩ := bnd hm
    obtain ⟨⟨y, S2⟩, q2, hm⟩ := bnd hm
    obtain ⟨S3, q3, hm⟩ := bnd hm
    cases hm
    exact ⟨ρ, l, S, x, S1, sim, ro, q1, fun ρ1 H1 x' e1 s1 r1 => ⟨ρ1, l, S1, y, S2, s1, ro.mono e1, q2, fun ρ2 H2 y' e2 s2 r2 => set3_ok s2 (r1.mono e2) r2 (rd.mono (e1.trans e2)) q3 fun H3 e3 s3 => p ρ2 H3 σ (e1.trans (e2.trans e3)) s3 (ro.mono (e1.trans (e2.trans e3)))⟩⟩
theorem s3_asg (he : PE3 X e me) (hg : PG3 X tgt g) (hs : swapsWithSole [tgt] e pos.line X.env = pure false := by rfl) (hw : swappedStores [tgt] e X.env = pure none := by rfl)
    (h1 : (assignEach [tgt] X.env).map (·.2) = [assign tgt X.env] := by rfl) : PS3 X (.Assign [tgt] e pos) (sAsg me g) := PS.imp (ps_asg he hg hs hw h1) fun E σ H ⟨ρ, l, S, f, l', S', sim, ro, hm, p⟩ => by
  obtain ⟨⟨x, S1⟩, q1, hm⟩ := bnd hm
  obtain ⟨⟨l2, S2⟩, q2, hm⟩ := bnd hm
  cases hm
  exact ⟨ρ, l, S, x, S1, sim, ro, q1, fun ρ1 H1 x' e1 s1 r1 => ⟨ρ1, l, S1, x, _, _, s1, ro.mono e1, r1, q2, fun ρ2 H2 σ2 e2 s2 r2 => p ρ2 H2 σ2 (e1.trans e2) s2 r2⟩⟩
theorem s3_set (j : Nat) {x : Str} {pos' : Pos} (hN : X.N.Nodup) (he : PE3 X e me) (hi : X.N[j]? = some x := by rfl) (hx : Loc X.env.scope x := by first | exact Or.inl rfl | exact Or.inr rfl) (hs : swapsWith e (some (.Name x pos')) pos.line X.env = pure false := by rfl) (hf : X.fn x = true ∨ X.env.scope.names.lookup x = some .local := by first | exact .inl rfl | exact .inr rfl | assumption) :
    PS3 X (.Assign [.Name x pos'] e pos) (sAsg me (gName3 j)) := PS.imp (ps_set hN hi hx he hs hf) fun E σ H ⟨ρ, l, S, f, l', S', sim, ro, hm, p⟩ => by
  obtain ⟨⟨x, S1⟩, q1, hm⟩ := bnd hm
  cases hm
  exact ⟨ρ, l, S, x, _, sim, ro, q1, fun ρ1 H1 x' e1 s1 r1 => p ρ1 H1 _ e1 s1 ((ro.mono e1).set j r1)⟩
end
def forX (g : GM) (b : SM) : List D → SM
  | [], l, S => some (.nx, l, S)
  | x :: xs, l, S => (g x l S).bind fun p => (b p.1 p.2).bind fun q => match q.1 with
    | .nx => forX g b xs q.2.1 q.2.2
    | .ct => forX g b xs q.2.1 q.2.2
    | .bk => some (.nx, q.2)
    | .rt d => some (.rt d, q.2)
def forL (g : GM) (b : SM) (n : Nat) : Nat → Nat → SM
  | 0, _, _, _ => none
  | k + 1, i, l, S => (lstOf S n).bind fun xs => match xs[i]? with
    | none => some (.nx, l, S)
    | some x => (g x l S).bind fun p => (b p.1 p.2).bind fun q => match q.1 with
      | .nx => forL g b n k (i + 1) q.2.1 q.2.2
      | .ct => forL g b n k (i + 1) q.2.1 q.2.2
      | .bk => some (.nx, q.2)
      | .rt d => some (.rt d, q.2)
def sFor (e : EM) (g : GM) (b : SM) : SM := fun l S => (e l S).bind fun p => match p.1 with
  | .tup xs => forX g b xs l p.2
  | .ref n => (lstOf p.2 n).bind fun xs => forL g b n (xs.length + 1) 0 l p.2
  | _ => none
def rngD (lo : Int) (n : Nat) : List D := (List.range n).map fun (i : Nat) => .int (lo + i)
def rng1 (as : AM) : Lo → Sto → Option ((Int × Nat) × Sto) := fun l S => (as l S).bind fun p => match p.1 with
  | [.int j] => if -(2 ^ 62) ≤ j ∧ j < 2 ^ 62 then some ((0, j.toNat), p.2) else none
  | _ => none
def sForR (r : Lo → Sto → Option ((Int × Nat) × Sto)) (g : GM) (b : SM) : SM := fun l S => (r l S).bind fun p => forX g b (rngD p.1.1 p.1.2) l p.2
section
variable {K : PySem.W.Frag} {g : GM} {b : SM} {E : Ends}
theorem turn3 {next : SM} {x : D} {v : V} {ρ : List Addr} {l : Lo} {S : Sto} {H : Hp} {σ : St} {f : Fl} {l' : Lo} {S' : Sto} (sim : Sim K ρ S H) (ro : RO ρ H l σ) (rx : RD ρ H x v)
    (hm : ((g x l S).bind fun p => (b p.1 p.2).bind fun q => match q.1 with
      | .nx => next q.2.1 q.2.2
      | .ct => next q.2.1 q.2.2
      | .bk => some (.nx, q.2)
      | .rt d => some (.rt d, q.2)) = some (f, l', S')) (p : ∀ ρ' H' σ', Ext ρ H ρ' H' → Sim K ρ' S' H' → RO ρ' H' l' σ' → ends ρ' H' E σ' f)
    {N : St → Hp → Prop} (hN : ∀ ρ1 H1 σ1 l1 S1, Ext ρ H ρ1 H1 → Sim K ρ1 S1 H1 → RO ρ1 H1 l1 σ1 → next l1 S1 = some (f, l', S') → N σ1 H1) :
    tg K g v σ H fun σ2 H2 => ts K b { E with nx := N, ct := N, bk := E.nx } σ2 H2 := by
  obtain ⟨⟨l1, S1⟩, q1, hm⟩ := bnd hm
  obtain ⟨⟨fl, l2, S2⟩, q2, hm⟩ := bnd hm
  refine ⟨ρ, l, S, x, l1, S1, sim, ro, rx, q1, fun ρ1 H1 σ1 e1 s1 r1 => ⟨ρ1, l1, S1, fl, l2, S2, s1, r1, q2, fun ρ2 H2 σ2 e2 s2 r2 => ?_⟩⟩
  cases fl with
  | nx => exact hN ρ2 H2 σ2 l2 S2 (e1.trans e2) s2 r2 hm
  | ct => exact hN ρ2 H2 σ2 l2 S2 (e1.trans e2) s2 r2 hm
  | bk => cases hm; exact p ρ2 H2 σ2 (e1.trans e2) s2 r2
  | rt d => cases hm; exact p ρ2 H2 σ2 (e1.trans e2) s2 r2
end
section
variable {X : Cx} {tgt iter : Expr} {body : List Stmt} {g : GM} {b : SM} {m : EM} {pos : Pos}
theorem loopX {K : PySem.W.Frag} {J : It} {vs : List V} {xs : List D} {ρ : List Addr} {l : Lo} {S : Sto} {H : Hp} {σ : St} {f : Fl} {l' : Lo} {S' : Sto} {E : Ends} (R : List Addr → Hp → Prop) (hR : ∀ ρ H ρ' H', Ext ρ H ρ' H' → R ρ H → R ρ' H')
    (hgo : ∀ (i : Nat) ρ H v, R ρ H → vs[i]? = some v → J.go i H) (hy : ∀ (i : Nat) ρ H v H', R ρ H → i < vs.length → J.yld i H v H' → H' = H ∧ vs[i]? = some v) (hst : ∀ ρ H, R ρ H → J.stop vs.length H)
    (hv : ∀ ρ H, R ρ H → RDs ρ H xs vs) (r0 : R ρ H)
    (sim : Sim K ρ S H) (ro : RO ρ H l σ) (hm : forX g b xs l S = some (f, l', S')) (p : ∀ ρ' H' σ', Ext ρ H ρ' H' → Sim K ρ' S' H' → RO ρ' H' l' σ' → ends ρ' H' E σ' f) :
    ∃ W : Nat → Nat → St → Hp → Prop, (∃ m, W 0 m σ H) ∧ ∀ i m σ H, W i m σ H →
      (J.stop i H ∧ E.nx σ H) ∨ (J.go i H ∧ ∃ N : St → Hp → Prop, (∀ σ' H', N σ' H' → ∃ m', m' < m ∧ W (i + 1) m' σ' H') ∧ ∀ x H', J.yld i H x H' → tg K g x σ H' fun σ2 H2 => ts K b { E with nx := N, ct := N, bk := E.nx } σ2 H2) := by
  refine ⟨fun i m σ1 H1 => m = xs.length - i ∧ i ≤ xs.length ∧ ∃ ρ1 l1 S1, Ext ρ H ρ1 H1 ∧ Sim K ρ1 S1 H1 ∧ RO ρ1 H1 l1 σ1 ∧ forX g b (xs.drop i) l1 S1 = some (f, l', S'), ⟨xs.length, by simp, Nat.zero_le _, ρ, l, S, Ext.refl .., sim, ro, hm⟩, ?_⟩
  rintro i m σ1 H1 ⟨rfl, hi, ρ1, l1, S1, e1, s1, ro1, hm1⟩
  have R1 := hR _ _ _ _ e1 r0
  have hlen := (hv _ _ r0).length
  by_cases hlt : i < xs.length
  · have hx : xs[i]? = some xs[i] := List.getElem?_eq_getElem hlt
    obtain ⟨v, hvi, rv⟩ := (hv _ _ R1).get hx
    rw [List.drop_eq_getElem_cons hlt] at hm1
    refine .inr ⟨hgo i ρ1 H1 v R1 hvi, _, fun σ' H' h => h, fun y H' hyl => ?_⟩
    obtain ⟨e, hy2⟩ := hy i ρ1 H1 y H' R1 (by omega) hyl
    subst e
    rw [hvi] at hy2; cases hy2
    refine turn3 (next := forX g b (xs.drop (i + 1))) s1 ro1 rv hm1 (fun ρ' H' σ' e' => p ρ' H' σ' (e1.trans e')) fun ρ2 H2 σ2 l2 S2 e2 s2 ro2 hm2 => ?_
    exact ⟨xs.length - (i + 1), by omega, rfl, hlt, ρ2, l2, S2, e1.trans e2, s2, ro2, hm2⟩
  · have hil : i = xs.length := by omega
    subst hil
    rw [List.drop_length] at hm1
    cases hm1
    exact .inl ⟨by rw [hlen]; exact hst _ _ R1, p ρ1 H1 σ1 e1 s1 ro1⟩
theorem rng_rd (ρ : List Addr) (H : Hp) (lo : Int) (n : Nat) : RDs ρ H (rngD lo n) ((List.range n).map fun (i : Nat) => V.int (lo + i)) := by
  unfold rngD
  generalize List.range n = l
  induction l with
  | nil => exact .nil
  | cons a r ih => exact .cons (.int _) ih
theorem itr_get {lo : Int} {n i : Nat} {v : V} (h : i < n) (hv : v = .int (lo + i)) : ((List.range n).map fun (i : Nat) => V.int (lo + i))[i]? = some v := by
  rw [List.getElem?_map, List.getElem?_range h, hv]; rfl
theorem PI.or {wi wj : TI} (h : PI X tgt iter wi) (h' : PI X tgt iter wj) : PI X tgt iter (fun σ H R => wi σ H R ∨ wj σ H R) := by
  intro pins s σ H R I q
  rcases q with q | q
  · exact h pins s σ H R I q
  · exact h' pins s σ H R I q
theorem loopL {K : PySem.W.Frag} {n : Nat} {a : Addr} {ρ : List Addr} {l : Lo} {S : Sto} {H : Hp} {σ : St} {f : Fl} {l' : Lo} {S' : Sto} {E : Ends} {k : Nat} (ha : ρ[n]? = some a)
    (sim : Sim K ρ S H) (ro : RO ρ H l σ) (hm : forL g b n k 0 l S = some (f, l', S')) (p : ∀ ρ' H' σ', Ext ρ H ρ' H' → Sim K ρ' S' H' → RO ρ' H' l' σ' → ends ρ' H' E σ' f) :
    ∃ W : Nat → Nat → St → Hp → Prop, (∃ m, W 0 m σ H) ∧ ∀ i m σ H, W i m σ H →
      ((Itl K a).stop i H ∧ E.nx σ H) ∨ ((Itl K a).go i H ∧ ∃ N : St → Hp → Prop, (∀ σ' H', N σ' H' → ∃ m', m' < m ∧ W (i + 1) m' σ' H') ∧ ∀ x H', (Itl K a).yld i H x H' → tg K g x σ H' fun σ2 H2 => ts K b { E with nx := N, ct := N, bk := E.nx } σ2 H2) := by
  refine ⟨fun i m σ1 H1 => ∃ ρ1 l1 S1, Ext ρ H ρ1 H1 ∧ Sim K ρ1 S1 H1 ∧ RO ρ1 H1 l1 σ1 ∧ forL g b n m i l1 S1 = some (f, l', S'), ⟨k, ρ, l, S, Ext.refl .., sim, ro, hm⟩, ?_⟩
  rintro i m σ1 H1 ⟨ρ1, l1, S1, e1, s1, ro1, hm1⟩
  cases m with
  | zero => cases hm1
  | succ m =>
    have ha1 := e1.pre n a ha
    unfold forL at hm1
    obtain ⟨xs, hx, hm1⟩ := bnd hm1
    obtain ⟨a', vs, ha', sq, rv⟩ := s1.lstOf hx
    rw [ha1] at ha'; cases ha'
    cases hi : xs[i]? with
    | none =>
      rw [hi] at hm1
      cases hm1
      have hl : xs.length ≤ i := List.getElem?_eq_none_iff.mp hi
      exact .inl ⟨⟨vs, sq, by rw [← rv.length]; exact hl⟩, p ρ1 H1 σ1 e1 s1 ro1⟩
    | some x =>
      rw [hi] at hm1
      obtain ⟨v, hvi, r⟩ := rv.get hi
      refine .inr ⟨⟨vs, v, sq, hvi⟩, _, fun σ' H' h => h, fun y H' hyl => ?_⟩
      obtain ⟨e, hy2⟩ := hyl
      subst e
      have hy3 := hy2 vs sq
      rw [hvi] at hy3; cases hy3
      refine turn3 (next := forL g b n m (i + 1)) s1 ro1 r hm1 (fun ρ' H' σ' e' => p ρ' H' σ' (e1.trans e')) fun ρ2 H2 σ2 l2 S2 e2 s2 ro2 hm2 => ?_
      exact ⟨m, Nat.lt_succ_self m, ρ2, l2, S2, e1.trans e2, s2, ro2, hm2⟩
theorem s3_for (hp : PassesOwn (model X.prog X.w) X.A X.env X.xe) (hc : X.calm = true) (hi : PE3 X iter m) (hg : PG3 X tgt g) (hb : PSs3 X body b)
    (hs : ∀ x, foldedSetIterable iter X.env x = pure x := by intro _; rfl) : PS3 X (.For tgt iter body [] pos) (sFor m g b) :=
  PS.imp (ps_for hp hc (PI.or (pi_list hi) (pi_tup hi)) hg hb hs) fun E σ H ⟨ρ, l, S, f, l', S', sim, ro, hm, p⟩ => by
    obtain ⟨⟨x, S1⟩, q1, hm⟩ := bnd hm
    dsimp only at hm
    split at hm
    · rename_i xs
      refine .inr ⟨ρ, l, S, .tup xs, S1, sim, ro, q1, fun ρ1 H1 x' e1 s1 r1 => ?_⟩
      cases r1 with
      | @tup xs a vs ha r =>
        refine ⟨a, rfl, ⟨vs, SqT.of ha⟩, loopX (vs := vs) (fun ρ' H' => H' a = some (.tup vs) ∧ RDs ρ' H' xs vs) (fun ρ H ρ' H' e ⟨h1, h2⟩ => ⟨e.tup _ _ h1, h2.mono e⟩)
          (fun i ρ H v ⟨h1, _⟩ hv => ⟨vs, v, SqT.of h1, hv⟩) (fun i ρ H v H' ⟨h1, _⟩ _ hy => ⟨hy.1, hy.2 vs (SqT.of h1)⟩) (fun ρ H ⟨h1, _⟩ => ⟨vs, SqT.of h1, Nat.le_refl _⟩) (fun ρ H h => h.2) ⟨ha, r⟩ s1 (ro.mono e1) hm fun ρ' H' σ' e' => p ρ' H' σ' (e1.trans e')⟩
    · rename_i n
      obtain ⟨xs, hx, hm⟩ := bnd hm
      refine .inl ⟨ρ, l, S, .ref n, S1, sim, ro, q1, fun ρ1 H1 x' e1 s1 r1 => ?_⟩
      obtain ⟨a, vs, ha, sq, rv⟩ := s1.lstOf hx
      cases r1 with
      | ref hn =>
        rw [ha] at hn; cases hn
        exact ⟨a, rfl, ⟨vs, sq⟩, loopL ha s1 (ro.mono e1) hm (fun ρ' H' σ' e' => p ρ' H' σ' (e1.trans e'))⟩
    · cases hm
theorem s3_forR1 {a : Expr} {mA : AM} {p0 pos' : Pos} (hp : PassesOwn (model X.prog X.w) X.A X.env X.xe) (hc : X.calm = true) (hgl : Gl X "range") (hmg : X.mg "range" = none) (ha : PA3 X [a] mA) (hg : PG3 X tgt g) (hb : PSs3 X body b)
    (hs : ∀ x, foldedSetIterable (.Call (.Name "range" p0) [a] [] pos') X.env x = pure x := by intro _; rfl) (hst : starEach [a] X.env = [(false, eval a X.env)] := by rfl) : PS3 X (.For tgt (.Call (.Name "range" p0) [a] [] pos') body [] pos) (sForR (rng1 mA) g b) :=
  PS.imp (ps_for hp hc (pi_range1 hgl hmg ha hst) hg hb hs) fun E σ H ⟨ρ, l, S, f, l', S', sim, ro, hm, p⟩ => by
    obtain ⟨⟨⟨lo, n⟩, S1⟩, q1, hm⟩ := bnd hm
    obtain ⟨⟨xs, S2⟩, q2, q1⟩ := bnd q1
    dsimp only at q1 hm
    split at q1
    · rename_i j
      obtain ⟨hz, e⟩ := ite_some q1
      cases e
      refine ⟨ρ, l, S, [.int j], S1, sim, ro, q2, fun ρ1 H1 vs e1 s1 r1 => ?_⟩
      obtain ⟨v, rfl, rv⟩ := r1.one
      cases rv
      refine ⟨j, rfl, hz.1, hz.2, loopX (vs := (List.range j.toNat).map fun (i : Nat) => V.int (0 + i)) (fun _ _ => True) (fun _ _ _ _ _ h => h) (fun i ρ H v _ hv => ?_) (fun i ρ H v H' _ hl hy => ⟨hy.1, ?_⟩) (fun ρ H _ => ?_) (fun ρ H _ => rng_rd ρ H 0 j.toNat) trivial s1 (ro.mono e1) hm fun ρ' H' σ' e' => p ρ' H' σ' (e1.trans e')⟩
      · have := (List.getElem?_eq_some_iff.mp hv).1
        simp at this
        show i < j.toNat
        omega
      · obtain ⟨_, hy⟩ := hy
        exact itr_get (by simpa using hl) hy
      · show j.toNat ≤ _
        simp
    · cases q1
end
def runB (n : Nat) (b : SM) : FM := fun ds S => (b (ds.map some ++ List.replicate (n - ds.length) none) S).bind fun p => match p.1 with
  | .rt d => some (d, p.2.2)
  | .nx => some (.non, p.2.2)
  | _ => none
theorem RDs.locals {ρ : List Addr} {H : Hp} {ds : List D} {vs : List V} (r : RDs ρ H ds vs) (N : List Str) : RO ρ H (ds.map some ++ List.replicate (N.length - ds.length) none) (L2.start N vs) := by
  unfold L2.start
  rw [← r.length]
  refine ⟨by simp [r.length], fun i d h => ?_⟩
  by_cases hl : i < ds.length
  · rw [List.getElem?_append_left (by simpa using hl), List.getElem?_map] at h
    cases e : ds[i]? with
    | none => rw [e] at h; cases h
    | some d' =>
      rw [e] at h
      have h' : some (some d') = some (some d) := h
      cases h'
      obtain ⟨v, h1, h2⟩ := r.get e
      exact ⟨v, by rw [List.getElem?_append_left (by rw [List.length_map, ← r.length]; exact hl), List.getElem?_map, h1]; rfl, h2⟩
  · rw [List.getElem?_append_right (by simpa using hl), List.getElem?_replicate] at h
    split at h
    · cases h
    · cases h
theorem fun3 {P : Program} {w : World} {K : PySem.W.Frag} {mg : Str → Option Value} {base : Heap} {x qual : Str} {st : Stmt} {f : Addr} {fd : FuncData} {N ps : List Str} {k n : Nat} {b : SM} (F : Fun K x qual st f fd) (S : FnScope N ps (defScope st)) (hn : ps.length = n)
    (hbody : ∀ (cdv : Value), PySem.W.codeIn K cdv qual = true → ∀ (A : Around) (outer : List Env) (s : Shared) (H : Hp) (E : XK), Room k (A.deeper (envOfC qual (defScope st) s.heap.objs.size f cdv)) →
      PSs3 (cxOf CX0 P w K mg base N qual (defScope st) f cdv A outer s H E).nox (defBody st) b) : FnOk P w K mg base CX0 (k + 1) f fd ps (sp3 K n (runB N.length b)) := by
  obtain ⟨oc, od, kV, doc, pm, an, cdv, ct, osl, rfl, lk, hcd⟩ := F.ex
  refine fn_of lk hcd S (fun vs H Q E h => by rw [h.1, hn]) fun A outer s H vs Q E hr h => ?_
  obtain ⟨hl, ρ, ds, S0, v, S', sim, rd, hm, p⟩ := h
  refine ⟨_, PSs.nox (hbody cdv hcd A outer s H E hr), ?_⟩
  obtain ⟨⟨fl, l', S1⟩, q, hm⟩ := bnd hm
  refine ⟨ρ, _, S0, fl, l', S1, sim, rd.locals N, q, fun ρ' H' σ' e' s' r' => ?_⟩
  cases fl with
  | nx => cases hm; exact p ρ' H' _ e' s' .non
  | rt d => cases hm; exact fun v' rv => p ρ' H' v' e' s' rv
  | bk => cases hm
  | ct => cases hm
end L3
set_option Elab.async false
set_option maxHeartbeats 4000000
namespace L3
open PySem PySem.Spec PyProof.Rows L2
def clOf (env : Env) : List (Str × NameKind) → List (Str × Addr) → List (Str × Addr)
  | [], cs => cs
  | (n, k) :: r, cs => if k == .free then (match env.cells.lookup n with | some c => clOf env r ((n, c) :: cs) | none => clOf env r cs) else clOf env r cs
theorem closure_eq (env : Env) : ∀ (names : List (Str × NameKind)) (cs : List (Str × Addr)), (∀ x ∈ names, x.2 = .free → ∃ c, env.cells.lookup x.1 = some c) →
    (forIn names cs (fun x r => if (x.2 == NameKind.free) = true then do let c ← cellOf env x.1; pure (ForInStep.yield ((x.1, c) :: r)) else pure (ForInStep.yield r)) : Sem (List (Str × Addr))) = pure (clOf env names cs)
  | [], cs, _ => rfl
  | (n, k) :: r, cs, h => by
    have ih := fun cs => closure_eq env r cs fun x hx => h x (List.mem_cons_of_mem _ hx)
    rw [List.forIn_cons]
    by_cases hk : k = .free
    · subst hk
      obtain ⟨c, hc⟩ := h (n, .free) List.mem_cons_self rfl
      simp only [beq_self_eq_true, if_true, cellOf, hc, clOf, pure_bind, bind_assoc]
      exact ih _
    · have hb : (k == NameKind.free) = false := by simpa using hk
      simp only [hb, Bool.false_eq_true, if_false, clOf, pure_bind]
      exact ih _
theorem closureFor_eq (scope : Scope) (env : Env) (h : ∀ x ∈ scope.names, x.2 = .free → ∃ c, env.cells.lookup x.1 = some c) : closureFor scope env = pure (clOf env scope.names []) := by
  have e := closure_eq env scope.names [] h
  unfold closureFor
  show (forIn scope.names ([] : List (Str × Addr)) (fun (x : Str × NameKind) (r : List (Str × Addr)) => if (x.2 == NameKind.free) = true then do let c ← cellOf env x.1; pure (ForInStep.yield ((x.1, c) :: r)) else pure (ForInStep.yield r)) >>= fun cs => pure cs) = _
  rw [e, pure_bind]
theorem clOf_sub (env : Env) : ∀ (names : List (Str × NameKind)) (cs : List (Str × Addr)), (∀ x c, cs.lookup x = some c → env.cells.lookup x = some c) → ∀ x c, (clOf env names cs).lookup x = some c → env.cells.lookup x = some c
  | [], cs, h, x, c, q => h x c q
  | (n, k) :: r, cs, h, x, c, q => by
    unfold clOf at q
    split at q
    · split at q
      · rename_i c' e
        refine clOf_sub env r _ (fun y d hy => ?_) x c q
        rw [List.lookup_cons] at hy
        split at hy
        · rename_i hb
          have : y = n := by simpa using hb
          cases hy
          rw [this]; exact e
        · exact h y d hy
      · exact clOf_sub env r cs h x c q
    · exact clOf_sub env r cs h x c q
theorem clOf_has (env : Env) : ∀ (names : List (Str × NameKind)) (cs : List (Str × Addr)) (x : Str), ((x, NameKind.free) ∈ names ∨ ∃ c, cs.lookup x = some c) → (∃ c, env.cells.lookup x = some c) → ∃ c, (clOf env names cs).lookup x = some c
  | [], cs, x, h, _ => by
    rcases h with h | h
    · cases h
    · exact h
  | (n, k) :: r, cs, x, h, hx => by
    unfold clOf
    by_cases hk : (k == NameKind.free) = true
    · rw [if_pos hk]
      split
      · rename_i c' e
        refine clOf_has env r _ x ?_ hx
        by_cases hxn : x = n
        · exact .inr ⟨c', by rw [hxn, List.lookup_cons]; simp⟩
        · rcases h with h | ⟨c, h⟩
          · rcases List.mem_cons.mp h with h | h
            · cases h; exact absurd rfl hxn
            · exact .inl h
          · exact .inr ⟨c, by
              rw [List.lookup_cons]
              have : (x == n) = false := by simpa using hxn
              rw [this]; exact h⟩
      · rename_i e
        refine clOf_has env r _ x ?_ hx
        rcases h with h | h
        · rcases List.mem_cons.mp h with h | h
          · cases h
            obtain ⟨c, hc⟩ := hx
            rw [hc] at e; cases e
          · exact .inl h
        · exact .inr h
    · rw [if_neg hk]
      refine clOf_has env r _ x ?_ hx
      rcases h with h | h
      · rcases List.mem_cons.mp h with h | h
        · cases h; exact absurd rfl hk
        · exact .inl h
      · exact .inr h
def cxC (X : Cx) (N' : List Str) (scope : Scope) (C : Addr) (s : Shared) (H : Hp) (fp : List Addr) (pins : List (Addr × Obj)) : Cx where
  prog := X.prog
  w := X.w
  K := X.K
  mg := X.mg
  base := X.base
  A := X.A
  N := N'
  s₀ := s
  H₀ := H
  env := compEnvC scope (clOf X.env scope.names []) C X.env
  outer := X.stack
  stack := X.stack
  ex := fp
  fn := fun _ => false
  calm := X.calm
  pn := X.pn ++ pins
  xe := fun _ _ => False
section
variable {prog : Program} {w : World} {A : Around} {R : Result → Shared → Prop} {s : Shared}
theorem compLoopG {elt target iter : Expr} {ifs : List Expr} {scope : Scope} {pos : Pos} {it acc : Value} {env : Env} (I : Nat → Shared → Prop)
    (turn : ∀ n s, I n s → wpAny (model prog w) A (pyNext it) (fun r s₁ => match r with
      | none => R (.ok .next) s₁
      | some v => wpAny (model prog w) A (letOwnedTupleGo target it v) (fun _ s₁' => wpAny (model prog w) A (assign target env v) (fun _ s₂ =>
          wpAny (model prog w) A (forIn ifs true fun c r => if r = true then do let ok ← isTrue c env (eval c env); pure (ForInStep.yield ok) else pure (ForInStep.yield r)) (fun ok s₃ =>
            if ok = true then wpAny (model prog w) A (eval elt env) (fun x s₄ =>
              wpAny (model prog w) A (call (.builtin "list.append") [acc, x]) (fun _ s₅ => ∃ m, m < n ∧ I m s₅) (fun _ _ => False) s₄) (fun _ _ => False) s₃
            else ∃ m, m < n ∧ I m s₃) (fun _ _ => False) s₂) (fun _ _ => False) s₁') (fun _ _ => False) s₁) (fun _ _ => False) s)
    (n : Nat) (h : I n s) :
    codeAny (model prog w) A (.compLoop (.ListComp elt [⟨target, iter, ifs, 0⟩] scope pos) 0 it acc env) R s := by
  refine codeAny_loop rfl I (fun n s hI => ?_) n h
  show wpAny _ A ((compTurn (.ListComp elt [⟨target, iter, ifs, 0⟩] scope pos) 0 it acc env).onRaise (fun x => do noteFrame x env; theTreesLotGoes x)) _ _ s
  refine wpAny_noted ?_
  rw [compTurn_list]
  refine wpAny_bind (wpAny_standAt (wpAny_bind (wpAny_mono (turn n s hI) (fun r s₁ h₁ => ?_) fun _ _ h' => h'.elim)))
  cases r with
  | none => exact wpAny_pure h₁
  | some v =>
    refine wpAny_bind (wpAny_mono h₁ (fun _ s₁' h₁ => ?_) fun _ _ h' => h'.elim)
    refine wpAny_bind (wpAny_mono h₁ (fun _ s₂ h₂ => wpAny_bind (wpAny_mono h₂ (fun ok s₃ h₃ => ?_) fun _ _ h' => h'.elim)) fun _ _ h' => h'.elim)
    cases ok with
    | false => exact wpAny_pure ⟨rfl, h₃⟩
    | true =>
      exact wpAny_bind (wpAny_bind (wpAny_mono h₃ (fun x s₄ h₄ => wpAny_bind (wpAny_mono h₄ (fun _ s₅ h₅ => wpAny_pure (wpAny_pure ⟨rfl, h₅⟩)) fun _ _ h' => h'.elim)) fun _ _ h' => h'.elim))
end
def PTs (X : Cx) (ifs : List Expr) (t : TT) : Prop := ∀ (pins : List (Addr × Obj)) (s : Shared) (σ : St) (H : Hp) (Q : Bool → Hp → Prop), Inv X pins σ H s → t σ H Q →
  wpAny (model X.prog X.w) X.A (forIn ifs true fun c r => if r = true then do let ok ← isTrue c X.env (eval c X.env); pure (ForInStep.yield ok) else pure (ForInStep.yield r)) (TP X pins σ Q) X.xe s
theorem pts_nil {X : Cx} : PTs X [] (fun _ H Q => Q true H) := fun _ _ _ H _ I h => wpAny_tests_nil ⟨H, I, h⟩
theorem pts_one {X : Cx} {c : Expr} {t : TT} (h : PT X c t) : PTs X [c] t := fun pins s σ H Q I q => wpAny_tests_one (h pins s σ H Q I q)
def tComp (K : PySem.W.Frag) (wi : TI) (src : St → St) (g : TG) (tts : TT) (t : TE) : TE := fun σ H Q => wi σ H fun J H1 => ∀ D, H1 D = none → K.lookup D = none → ∃ W : Nat → Nat → St → Hp → Prop,
  (∃ m, W 0 m (src σ) (upd H1 D (.lst []))) ∧ ∀ i m σ' H', W i m σ' H' →
    (J.stop i H' ∧ Q (.ref D) H') ∨ (J.go i H' ∧ ∃ N : St → Hp → Prop, (∀ σ' H', N σ' H' → ∃ m', m' < m ∧ W (i + 1) m' σ' H') ∧
      ∀ x H'', J.yld i H' x H'' → g x σ' H'' fun σ2 H2 => tts σ2 H2 fun b H3 => if b = true then t σ2 H3 (fun v H4 => ∃ ys, H4 D = some (.lst ys) ∧ ys.length < sizeLine ∧ N σ2 (upd H4 D (.lst (ys ++ [v])))) else N σ2 H3)
theorem relabel_lookup {scope : Scope} {env : Env} : ∀ {names : List (Str × NameKind)} {x : Str}, names.lookup x = some .free →
    ((names.map fun (n, k) => if (k == NameKind.free && env.scope.kind == .function && env.kindOf n == some .cell) then (n, NameKind.cell) else (n, k)).lookup x = some .cell ∨
     (names.map fun (n, k) => if (k == NameKind.free && env.scope.kind == .function && env.kindOf n == some .cell) then (n, NameKind.cell) else (n, k)).lookup x = some .free)
  | [], x, h => by simp at h
  | (n, k) :: r, x, h => by
    have ih := @relabel_lookup scope env r x
    show List.lookup x ((if (k == NameKind.free && env.scope.kind == .function && env.kindOf n == some .cell) = true then (n, NameKind.cell) else (n, k)) :: _) = _ ∨ List.lookup x ((if (k == NameKind.free && env.scope.kind == .function && env.kindOf n == some .cell) = true then (n, NameKind.cell) else (n, k)) :: _) = _
    cases hx : x == n with
    | true =>
      simp only [List.lookup_cons, hx] at h
      cases h
      by_cases hc : (NameKind.free == NameKind.free && env.scope.kind == .function && env.kindOf n == some .cell) = true
      · rw [if_pos hc]; simp [List.lookup_cons, hx]
      · rw [if_neg hc]; simp [List.lookup_cons, hx]
    | false =>
      simp only [List.lookup_cons, hx] at h
      by_cases hc : (k == NameKind.free && env.scope.kind == .function && env.kindOf n == some .cell) = true
      · rw [if_pos hc]; simp only [List.lookup_cons, hx]; exact ih h
      · rw [if_neg hc]; simp only [List.lookup_cons, hx]; exact ih h
structure CompSc (X : Cx) (N' : List Str) (scope : Scope) (src : St → St) : Prop where
  kind : scope.kind = .function
  nocell : ∀ y ∈ scope.names, y.2 ≠ .cell
  names : ∀ y ∈ scope.names, y.2 = .local → scope.names.lookup y.1 = some .local
  free : ∀ y ∈ scope.names, y.2 = .free → X.env.kindOf y.1 = some .cell ∨ X.env.kindOf y.1 = some .free
  rel : ∀ y, (relabel scope X.env).names.lookup y = some .cell ∨ (relabel scope X.env).names.lookup y = some .free → (y, NameKind.free) ∈ scope.names
  len : ∀ σ, (src σ).length = N'.length
  src : ∀ σ (i : Nat) v x, (src σ)[i]? = some (some v) → N'[i]? = some x → ∃ j : Nat, X.N[j]? = some x ∧ σ[j]? = some (some v) ∧ scope.names.lookup x = some .free
theorem comp_core {X : Cx} {N' : List Str} {elt iter tgt : Expr} {ifs : List Expr} {scope : Scope} {pos pos' : Pos} {use : Option (Value → Sem Unit)} {R : Value → Shared → Prop} {pins : List (Addr × Obj)} {s : Shared} {σ : St} {H : Hp} {Q : VK} {wi : TI} {src : St → St} {g : TG} {tts : TT} {t : TE} (hcalm : X.calm = true) (sc : CompSc X N' scope src)
    (hi : PI X tgt iter wi) (hg : ∀ C s H fp pins, PG (cxC X N' scope C s H fp pins) tgt g) (ht : ∀ C s H fp pins, PTs (cxC X N' scope C s H fp pins) ifs tts) (he : ∀ C s H fp pins, PE (cxC X N' scope C s H fp pins) elt t)
    (hs : ∀ x, foldedSetIterable iter X.env x = pure x) (I : Inv X pins σ H s) (h : tComp X.K wi src g tts t σ H Q)
    (fin : ∀ D H5 s6 C mC, Inv X pins σ H5 s6 → FpOk X pins H5 C → s6.heap.Ns C mC → Q (.ref D) H5 → compPost (model X.prog X.w) X.A X.xe use R (.ref D) C (.ok .next) s6) :
    wpAny (model X.prog X.w) X.A (comprehension (.ListComp elt [⟨tgt, iter, ifs, 0⟩] scope pos) scope X.env pos' (newList []) false (eval iter X.env) use) R X.xe s := by
  have hasC : ∀ x ∈ scope.names, x.2 = .free → ∃ c, X.env.cells.lookup x.1 = some c := fun x hx hf => I.ok.has x.1 (sc.free x hx hf)
  refine wpAny_comprehension_free (use := use) (env := X.env) rfl hs (closureFor_eq scope X.env hasC) sc.kind sc.names ?_
  show wpAny (model X.prog X.w) X.A (eval iter X.env) _ _ s
  refine wpAny_mono (hi pins s σ H _ I h) (fun v s1 h1 => wpAny_mono h1 (fun itv s2 h2 => ?_) fun _ _ z => z) fun _ _ z => z
  obtain ⟨it, fp, tn, J, H2, rfl, I2, T, st2, f2, q⟩ := h2
  refine wpAny_newObj_type ?_ (by show 0 ≤ sizeLine; exact Nat.zero_le _)
  have hD : H2 s2.heap.objs.size = none := I2.hok.fresh (Nat.le_refl _)
  have I3 : Inv X pins σ (upd H2 s2.heap.objs.size (.lst [])) { s2 with heap := s2.heap.push { cls := .type "list", data := .seq ([] : List Value).toArray } } := I2.lnew (t' := s2.toks) .nil (Nat.zero_le _)
  obtain ⟨W, ⟨m0, w0⟩, turn⟩ := q s2.heap.objs.size hD (by
    cases e : X.K.lookup s2.heap.objs.size with
    | none => rfl
    | some o => exact absurd (Heap.lt_size (I2.kIn _ o e)) (Nat.lt_irrefl _))
  refine wpAny_newFunctionEnv sc.nocell (by intro y hy; simp at hy) (fun h' hns hsb => ?_) sc.kind
  have fpIn : ∀ b ∈ fp, ∃ o, s2.heap.get? b = some o ∧ ∀ v, o.data ≠ .cell v := T.obj 0 s2.heap st2
  have fpD : ∀ b ∈ fp, b ≠ s2.heap.objs.size := fun b hb => let ⟨o, e, _⟩ := fpIn b hb; Nat.ne_of_lt (Heap.lt_size e)
  have f3 : ∀ b ∈ fp, FpOk X pins (upd H2 s2.heap.objs.size (.lst [])) b := fun b hb => ⟨by rw [upd_ne (fpD b hb)]; exact (f2 b hb).1, (f2 b hb).2⟩
  have st3 : tn 0 (s2.heap.push { cls := .type "list", data := .seq ([] : List Value).toArray }) := T.keep _ _ _ st2 fun b hb o e => Heap.get?_push_of_some _ e
  clear q hD h st2 f2 fpD
  generalize upd H2 s2.heap.objs.size (.lst []) = H3 at *
  generalize hDe : s2.heap.objs.size = D at *
  have fpIn3 : ∀ b ∈ fp, ∃ o, (s2.heap.push { cls := .type "list", data := .seq ([] : List Value).toArray }).get? b = some o ∧ ∀ v, o.data ≠ .cell v := T.obj 0 _ st3
  clear fpIn
  generalize s2.heap.push { cls := .type "list", data := .seq ([] : List Value).toArray } = h3 at *
  have old : ∀ b o, h3.get? b = some o → h'.get? b = some o := fun b o e => hsb.extBut b o (Nat.ne_of_lt (Heap.lt_size e)) (Heap.get?_push_of_some _ e)
  have stkNo : ∀ b, b ≠ X.env.locals → b ∉ X.fs → b ∉ frs X.stack := fun b h1 h2 hb => by
    rcases List.mem_cons.mp (I3.stkSub b hb) with z | z
    · exact h1 z
    · exact h2 z
  have sub := clOf_sub X.env scope.names [] (fun x c z => by simp at z)
  have cNe : ∀ b o, h3.get? b = some o → b ≠ h3.objs.size := fun b o e => Nat.ne_of_lt (Heap.lt_size e)
  have I4 : Inv (cxC X N' scope h3.objs.size { s2 with heap := h3 } H3 fp pins) [] (src σ) H3 { s2 with heap := h', toks := s2.toks + ([] : List (Str × Value)).length } := by
    refine ⟨⟨I3.ok.mod, sc.kind, I3.ok.glob, I3.ok.blt, Nat.le_refl _, fun x y c h1 h2 => I3.ok.inj x y c (sub x c h1) (sub y c h2), fun x hx => ?_, fun x c z => absurd (show false = true from z) Bool.false_ne_true, I3.ok.hd, I3.ok.frames, .inl rfl, fun b hb => ⟨?_, fun x c z => (f3 b hb).2.2.2.2.1 x c (sub x c z)⟩, fun b o e => I3.bs b o e, Nat.le_trans I3.ok.bsz I3.sz, fun b o e hb => ?_, fun b hb => stkNo b (f3 b hb).2.1 (f3 b hb).2.2.1, I3.stack, I3.stkFree⟩,
      rfl, I3.bare, Un.kept old, ⟨_, hns, fun i x v h1 h2 h3' => ?_⟩, fun x c z => ?_, I3.hok.fresh (Nat.le_refl _), fun x c z => I3.freeC x c (sub x c z), fun p hp => ?_, I3.hok.kept old, sc.len σ⟩
    · have hm := sc.rel x hx
      exact clOf_has X.env scope.names [] x (.inl hm) (hasC _ hm rfl)
    · obtain ⟨o, e, _⟩ := fpIn3 b hb
      exact cNe b o e
    · rcases (f3 b hb).2.2.2.1 with z | z
      · exact I3.ok.noex b o e z
      · have := Heap.lt_size (I3.ok.bs b o e).1
        exact absurd (Nat.lt_of_lt_of_le this z) (Nat.lt_irrefl _)
    · obtain ⟨j, e1, e2, e3⟩ := sc.src σ i v x h2 h1
      obtain ⟨m, hn, hl⟩ := I3.loc
      have hmem := PySem.mem_of_lookup e3
      have hk := sc.free (x, .free) hmem rfl
      have vis : Vis X.env.scope x := by
        rcases hk with k | k
        · exact .inr (.inl k)
        · exact .inr (.inr k)
      obtain ⟨u, r, lk⟩ := hl j x v e1 e2 vis
      refine ⟨u, r, .inr ⟨?_, ?_⟩⟩
      · exact relabel_lookup (scope := scope) e3
      · rcases lk with ⟨k, _⟩ | ⟨_, c, hc, hcell⟩
        · rcases hk with k' | k' <;> (rw [k] at k'; cases k')
        · obtain ⟨c', hc'⟩ := clOf_has X.env scope.names [] x (.inl hmem) ⟨c, hc⟩
          have := sub x c' hc'
          rw [hc] at this; cases this
          obtain ⟨o, ho, hd⟩ := hcell
          exact ⟨c, hc', o, old _ _ ho, hd⟩
    · obtain ⟨v, o, ho, hd⟩ := I3.cell x c (sub x c z)
      exact ⟨v, o, old _ _ ho, hd⟩
    · have hp' : p ∈ X.pn ++ pins := by simpa [cxC] using hp
      obtain ⟨e, n, ne, nf, d⟩ := I3.pin p hp'
      exact ⟨old _ _ e, n, cNe _ _ e, stkNo _ ne nf, d⟩
  have st4 : tn 0 h' := T.keep _ _ _ st3 fun b hb o e => old b o e
  have fr4 : ∀ b ∈ fp, H3 b = none := fun b hb => (f3 b hb).1
  have stat : ∀ {H' : Hp}, (∀ b ∈ fp, H' b = none) → ∀ b ∈ fp, FpOk (cxC X N' scope h3.objs.size { s2 with heap := h3 } H3 fp pins) [] H' b := fun hn b hb => by
    obtain ⟨g0, g1, g2, g3, g4, g5⟩ := f3 b hb
    obtain ⟨o, e, _⟩ := fpIn3 b hb
    exact ⟨hn b hb, cNe b o e, stkNo b g1 g2, .inl hb, fun x c z => g4 x c (sub x c z), fun p hp => g5 p (by simpa [cxC] using hp)⟩
  have loop : codeAny (model X.prog X.w) X.A (.compLoop (.ListComp elt [⟨tgt, iter, ifs, 0⟩] scope pos) 0 (.ref it) (.ref D) (compEnvC scope (clOf X.env scope.names []) h3.objs.size X.env))
      (compPost (model X.prog X.w) X.A X.xe use R (.ref D) h3.objs.size) { s2 with heap := h', toks := s2.toks + ([] : List (Str × Value)).length } := by
    refine compLoopG (fun n s' => ∃ i σ' H', Inv (cxC X N' scope h3.objs.size { s2 with heap := h3 } H3 fp pins) [] σ' H' s' ∧ tn i s'.heap ∧ (∀ b ∈ fp, H' b = none) ∧ W i n σ' H') ?_ m0 ⟨0, src σ, H3, I4, st4, fr4, w0⟩
    rintro n s5 ⟨i, σ5, H5, I5, st5, fr5, w5⟩
    rcases turn i n σ5 H5 w5 with ⟨stop, qn⟩ | ⟨go, N, hN, step⟩
    · refine wpAny_mono (T.done (cxC X N' scope h3.objs.size { s2 with heap := h3 } H3 fp pins) rfl rfl rfl hcalm i [] s5 σ5 H5 (fun _ _ => False) I5 (stat fr5) st5 stop) (fun r s6 hr => ?_) fun _ _ z => z
      obtain ⟨hr, I6⟩ := hr
      subst hr
      obtain ⟨mC, hnC, _⟩ := I6.loc
      have IX : Inv X pins σ H5 s6 := I3.call' (s' := s6) (ch := fp) I6.os I6.base I6.hok I6.bare fun b hb => ⟨(f3 b hb).2.2.2.1, (f3 b hb).2.1, (f3 b hb).2.2.2.2.1, (f3 b hb).2.2.2.2.2⟩
      exact fin D H5 s6 h3.objs.size mC IX (I3.fpOk (Nat.le_refl _) I6.free) hnC qn
    · refine wpAny_mono (T.item (cxC X N' scope h3.objs.size { s2 with heap := h3 } H3 fp pins) rfl rfl rfl hcalm i [] s5 σ5 H5 (fun _ _ => False) I5 (stat fr5) st5 go) (fun r s6 hr => ?_) fun _ _ z => z
      obtain ⟨u, hr, h6⟩ := hr
      subst hr
      refine wpAny_mono h6 (fun _ s7 h7 => ?_) fun _ _ z => z
      obtain ⟨x, H7, I7, r7, y7, st7, fr7⟩ := h7
      have I7' := I7.pinned (stat fr7) (T.obj _ _ st7)
      refine wpAny_mono (hg _ _ _ _ _ _ s7 σ5 H7 x u _ I7' r7 (step x H7 y7)) (fun _ s8 h8 => ?_) fun _ _ z => z
      obtain ⟨σ8, H8, I8, q8⟩ := h8
      have again : ∀ {H9 : Hp} {s9 : Shared}, Inv (cxC X N' scope h3.objs.size { s2 with heap := h3 } H3 fp pins) ([] ++ pinsAt fp s7.heap) σ8 H9 s9 → N σ8 H9 → ∃ m, m < n ∧ ∃ i σ' H', Inv (cxC X N' scope h3.objs.size { s2 with heap := h3 } H3 fp pins) [] σ' H' s9 ∧ tn i s9.heap ∧ (∀ b ∈ fp, H' b = none) ∧ W i m σ' H' := fun {H9 s9} I9 n9 => by
        obtain ⟨m', hm, w9⟩ := hN σ8 H9 n9
        refine ⟨m', hm, i + 1, σ8, H9, I9.unpinned, T.keep _ _ _ st7 fun b hb o e => (I9.pin (b, o) (List.mem_append_right _ (List.mem_append_right _ (mem_pinsAt hb e)))).1, fun b hb => ?_, w9⟩
        obtain ⟨o, e, d⟩ := T.obj _ _ st7 b hb
        exact (I9.pin (b, o) (List.mem_append_right _ (List.mem_append_right _ (mem_pinsAt hb e)))).2.1
      refine wpAny_mono (ht _ _ _ _ _ _ s8 σ8 H8 _ I8 q8) (fun ok s9 h9 => ?_) fun _ _ z => z
      obtain ⟨H9, I9, q9⟩ := h9
      cases ok with
      | false => exact again I9 q9
      | true =>
        refine wpAny_mono (he _ _ _ _ _ _ s9 σ8 H9 _ I9 q9) (fun y s10 h10 => ?_) fun _ _ z => z
        obtain ⟨vy, H10, I10, r10, ys, hys, hz, nx⟩ := h10
        refine wpAny_mono (mt_append (X := cxC X N' scope h3.objs.size { s2 with heap := h3 } H3 fp pins) _ s10 σ8 H10 (.ref D) [vy] (.ref D) [y] (fun _ H' => N σ8 H') I10 rfl (.cons r10 .nil) ⟨D, ys, vy, rfl, rfl, hys, hz, nx⟩) (fun _ s11 h11 => ?_) fun _ _ z => z
        obtain ⟨_, H11, I11, _, n11⟩ := h11
        exact again I11 n11
  exact codeAny_compStart_list loop (T.self _ 0 _ _ _ st4 loop)
theorem pe_comp {X : Cx} {N' : List Str} {elt iter tgt : Expr} {ifs : List Expr} {scope : Scope} {pos : Pos} {wi : TI} {src : St → St} {g : TG} {tts : TT} {t : TE} (hcalm : X.calm = true) (sc : CompSc X N' scope src)
    (hi : PI X tgt iter wi) (hg : ∀ C s H fp pins, PG (cxC X N' scope C s H fp pins) tgt g) (ht : ∀ C s H fp pins, PTs (cxC X N' scope C s H fp pins) ifs tts) (he : ∀ C s H fp pins, PE (cxC X N' scope C s H fp pins) elt t)
    (hs : ∀ x, foldedSetIterable iter X.env x = pure x := by intro _; rfl) : PE X (.ListComp elt [⟨tgt, iter, ifs, 0⟩] scope pos) (tComp X.K wi src g tts t) := by
  intro pins s σ H Q I h
  rw [eval_ListComp]
  refine comp_core (use := none) hcalm sc hi hg ht he hs I h fun D H5 s6 C mC IX fp hn q => ⟨mC, hn, fun h'' sb => ⟨.ref D, H5, ?_, rfl, q⟩⟩
  exact IX.turned (t' := s6.toks) (fun b o hb e => sb.extBut b o hb e) fp.1 fp.2.1 fp.2.2.2.1 fp.2.2.2.2.1 fp.2.2.2.2.2
theorem ps_comp {X : Cx} {N' : List Str} {elt iter tgt : Expr} {ifs : List Expr} {scope : Scope} {pos spos py : Pos} {wi : TI} {src : St → St} {g : TG} {tts : TT} {t : TE} {i : Nat} {y : Str} (hN : X.N.Nodup) (hi' : X.N[i]? = some y) (hx : Loc X.env.scope y)
    (hsw : swapsWith (.ListComp elt [⟨tgt, iter, ifs, 0⟩] scope pos) (some (.Name y py)) spos.line X.env = pure true) (hf : X.fn y = true ∨ X.env.scope.names.lookup y = some .local)
    (hcalm : X.calm = true) (sc : CompSc X N' scope src)
    (hi : PI X tgt iter wi) (hg : ∀ C s H fp pins, PG (cxC X N' scope C s H fp pins) tgt g) (ht : ∀ C s H fp pins, PTs (cxC X N' scope C s H fp pins) ifs tts) (he : ∀ C s H fp pins, PE (cxC X N' scope C s H fp pins) elt t)
    (hs : ∀ x, foldedSetIterable iter X.env x = pure x := by intro _; rfl) : PS X (.Assign [.Name y py] (.ListComp elt [⟨tgt, iter, ifs, 0⟩] scope pos) spos) (tAsg (tComp X.K wi src g tts t) (gName i)) := by
  intro pins s σ H D I h
  rw [exec_Assign_Name_used _ _ _ _ hsw]
  refine wpAny_bind (wpAny_standAt (wpAny_bind ?_))
  show wpAny _ X.A (do let _ ← comprehension (.ListComp elt [⟨tgt, iter, ifs, 0⟩] scope pos) scope X.env _ (newList []) false (eval iter X.env) (some (assign (.Name y py) X.env))) _ _ s
  refine wpAny_bind (wpAny_mono (comp_core (use := some (assign (.Name y py) X.env)) (R := fun _ s' => SP X pins D .next s') hcalm sc hi hg ht he hs I h fun D' H5 s6 C mC IX fp hn q => ?_) (fun _ s' hq => wpAny_pure (wpAny_pure hq)) fun _ _ e => e)
  show wpAny _ X.A (assign (.Name y py) X.env (.ref D')) _ _ s6
  refine wpAny_assign_Name (store_ok2 (v := .ref D') IX hN hi' hx rfl (fun s' I' ha => ?_) hf)
  obtain ⟨a, sb, ha⟩ := ha
  have hCa : C ≠ a := by
    rcases ha with ha | ha
    · rw [ha]; exact fp.2.1
    · exact fun z => fp.2.2.2.2.1 y a ha z.symm
  refine ⟨mC, hn.sameBut sb hCa, fun h'' sb'' => ⟨_, H5, ?_, q⟩⟩
  exact I'.turned (t' := s'.toks) (fun b o hb e => sb''.extBut b o hb e) fp.1 fp.2.1 fp.2.2.2.1 fp.2.2.2.2.1 fp.2.2.2.2.2
end L3
set_option Elab.async false
set_option maxHeartbeats 4000000
namespace L3
open PySem PySem.Spec PyProof.Rows L2
section
variable {K : PySem.W.Frag} {ρ ρ' : List Addr} {H H' : Hp} {S : Sto}
theorem Sim.notin {a : Addr} (s : Sim K ρ S H) (h1 : H a = none) (h2 : K.lookup a = none) : ∀ n : Nat, ρ[n]? ≠ some a := fun n hn => by
  have hl : n < S.length := by rw [← s.len]; exact (List.getElem?_eq_some_iff.mp hn).1
  have q := s.at' n a _ hn (List.getElem?_eq_getElem hl)
  cases e : S[n] with
  | lst xs => rw [e] at q; obtain ⟨vs, z, _⟩ := q; rw [h1] at z; cases z
  | flst xs =>
    rw [e] at q
    obtain ⟨vs, z, _⟩ := q
    rcases z with ⟨o, z⟩ | ⟨o, _, _, z, _⟩
    · rw [h1] at z; cases z
    · rw [h2] at z; cases z
  | iset g m => rw [e] at q; have q : H a = _ := q; rw [h1] at q; cases q
  | dct kvs => rw [e] at q; obtain ⟨vs, z, _⟩ := q; rw [h1] at z; cases z
  | tdct kvs => rw [e] at q; obtain ⟨vs, z, _⟩ := q; rw [h1] at z; cases z
  | fdct kvs => rw [e] at q; obtain ⟨o, vs, z, _⟩ := q; rw [h1] at z; cases z
  | ftdct kvs => rw [e] at q; obtain ⟨o, vs, z, _⟩ := q; rw [h1] at z; cases z
  | tset ks => rw [e] at q; obtain ⟨xs, _, z, _⟩ := q; rw [h1] at z; cases z
  | fnc x => rw [e] at q; obtain ⟨_, o, z⟩ := q; rw [h2] at z; cases z
  | exc c => rw [e] at q; obtain ⟨C, _, z⟩ := q; rw [h1] at z; cases z
theorem Sim.adopt {a : Addr} {xs : List D} {vs : List V} (s : Sim K ρ S H) (ha : H a = some (.lst vs)) (hn : ∀ n : Nat, ρ[n]? ≠ some a) (r : RDs ρ H xs vs) : Sim K (ρ ++ [a]) (S ++ [.lst xs]) H := by
  refine ⟨by simp [s.len], fun i j b x1 x2 h1 h2 h3 h4 m1 m2 => ?_, fun n b o h1 h2 => ?_⟩
  · rcases get_push h1 with g1 | ⟨e1, f1⟩ <;> rcases get_push h2 with g2 | ⟨e2, f2⟩
    · rcases get_push h3 with h3 | ⟨e3, _⟩ <;> rcases get_push h4 with h4 | ⟨e4, _⟩
      · exact s.nd i j b _ _ g1 g2 h3 h4 m1 m2
      · have := (List.getElem?_eq_some_iff.mp g2).1; have := s.len; omega
      · have := (List.getElem?_eq_some_iff.mp g1).1; have := s.len; omega
      · omega
    · subst f2; exact absurd g1 (hn i)
    · subst f1; exact absurd g2 (hn j)
    · omega
  · rcases get_push h1 with h1 | ⟨e1, f1⟩
    · rcases get_push h2 with h2 | ⟨e2, f2⟩
      · exact (s.at' n b o h1 h2).more ext0_push
      · have := (List.getElem?_eq_some_iff.mp h1).1; have := s.len; omega
    · subst f1
      rcases get_push h2 with h2 | ⟨e2, f2⟩
      · have := (List.getElem?_eq_some_iff.mp h2).1; have := s.len; omega
      · subst f2
        exact ⟨vs, ha, r.mono0 ext0_push⟩
theorem Sim.beside {a : Addr} {ys : List V} {u : HO} (s : Sim K ρ S H) (ha : H a = some (.lst ys)) (hn : ∀ n : Nat, ρ[n]? ≠ some a) : Sim K ρ S (upd H a u) :=
  ⟨s.len, s.nd, fun n b o h1 h2 => (s.at' n b o h1 h2).written ha fun _ z => hn n (by rw [h1, z])⟩
theorem Ext.beside {a : Addr} {ys : List V} {u : HO} {ρ0 : List Addr} {H0 : Hp} (e : Ext ρ0 H0 ρ H) (h0 : H0 a = none) (ha : H a = some (.lst ys)) : Ext ρ0 H0 ρ (upd H a u) :=
  ⟨⟨e.pre, fun b vs h => by rw [upd_ne (ne_of (e.tup b vs h) ha (by intro z; cases z))]; exact e.tup b vs h, fun b o vs h => by rw [upd_ne (ne_of (e.frz b o vs h) ha (by intro z; cases z))]; exact e.frz b o vs h⟩, fun b vs h n => ⟨by rw [upd_ne (ne_of_none h h0)]; exact (e.out b vs h n).1, (e.out b vs h n).2⟩⟩
theorem Ext.adopt {a : Addr} {ρ0 : List Addr} {H0 : Hp} (e : Ext ρ0 H0 ρ H) (h0 : H0 a = none) : Ext ρ0 H0 (ρ ++ [a]) H :=
  ⟨⟨fun n b h => (ext0_push (H := H)).pre n b (e.pre n b h), e.tup, e.frz⟩, fun b vs h n => ⟨(e.out b vs h n).1, fun i hi => by
    rcases get_push hi with hi | ⟨_, z⟩
    · exact (e.out b vs h n).2 i hi
    · rw [z, h0] at h; cases h⟩⟩
end
abbrev ItM := Nat → Sto → Option (Option D)
abbrev IM := Lo → Sto → Option (ItM × Nat × Sto)
def ItOk (K : PySem.W.Frag) (ρ : List Addr) (H : Hp) (it : ItM) (J : It) : Prop := ∀ (i : Nat) ρ' S' H', Ext ρ H ρ' H' → Sim K ρ' S' H' →
  (it i S' = some none → J.stop i H') ∧ ∀ x, it i S' = some (some x) → J.go i H' ∧ ∀ y H'', J.yld i H' y H'' → H'' = H' ∧ RD ρ' H' x y
def ti (K : PySem.W.Frag) (im : IM) : TI := fun σ H R => ∃ ρ l S it k S', Sim K ρ S H ∧ RO ρ H l σ ∧ im l S = some (it, k, S') ∧ ∀ ρ' H' J, Ext ρ H ρ' H' → Sim K ρ' S' H' → ItOk K ρ' H' it J → R J H'
def PI3 (X : Cx) (tgt iter : Expr) (im : IM) : Prop := PI X tgt iter (ti X.K im)
theorem PI.imp {X : Cx} {tgt iter : Expr} {t u : TI} (h : PI X tgt iter t) (i : ∀ σ H R, u σ H R → t σ H R) : PI X tgt iter u := fun pins s σ H Q I q => h pins s σ H Q I (i _ _ _ q)
def itX (xs : List D) : ItM := fun i _ => some xs[i]?
def itL (n : Nat) : ItM := fun i S => (lstOf S n).bind fun xs => some xs[i]?
def iVal (e : EM) : IM := fun l S => (e l S).bind fun p => match p.1 with
  | .tup xs => some (itX xs, xs.length + 1, p.2)
  | .ref n => (lstOf p.2 n).bind fun xs => some (itL n, xs.length + 1, p.2)
  | _ => none
def iRng (r : Lo → Sto → Option ((Int × Nat) × Sto)) : IM := fun l S => (r l S).bind fun p => some (itX (rngD p.1.1 p.1.2), p.1.2 + 1, p.2)
section
variable {K : PySem.W.Frag}
theorem itok_tup {ρ : List Addr} {H : Hp} {a : Addr} {xs : List D} {vs : List V} (ha : H a = some (.tup vs)) (r : RDs ρ H xs vs) : ItOk K ρ H (itX xs) (Itt K a) := by
  intro i ρ' S' H' e s
  have ha' := SqT.of (K := K) (e.tup _ _ ha)
  have r' := r.mono e
  refine ⟨fun h => ?_, fun x h => ?_⟩
  · have h : xs[i]? = none := Option.some.inj h
    exact ⟨vs, ha', by rw [← r.length]; exact List.getElem?_eq_none_iff.mp h⟩
  · have h : xs[i]? = some x := Option.some.inj h
    obtain ⟨v, hv, rv⟩ := r'.get h
    refine ⟨⟨vs, v, ha', hv⟩, fun y H'' ⟨e1, e2⟩ => ⟨e1, ?_⟩⟩
    have := e2 vs ha'
    rw [hv] at this; cases this
    exact rv
theorem itok_lst {ρ : List Addr} {H : Hp} {a : Addr} {n : Nat} (ha : ρ[n]? = some a) : ItOk K ρ H (itL n) (Itl K a) := by
  intro i ρ' S' H' e s
  have ha' := e.pre _ _ ha
  refine ⟨fun h => ?_, fun x h => ?_⟩
  · obtain ⟨xs, h1, h⟩ := bnd h
    have h : xs[i]? = none := Option.some.inj h
    obtain ⟨b, vs, hb, sq, r⟩ := s.lstOf h1
    rw [ha'] at hb; cases hb
    exact ⟨vs, sq, by rw [← r.length]; exact List.getElem?_eq_none_iff.mp h⟩
  · obtain ⟨xs, h1, h⟩ := bnd h
    have h : xs[i]? = some x := Option.some.inj h
    obtain ⟨b, vs, hb, sq, r⟩ := s.lstOf h1
    rw [ha'] at hb; cases hb
    obtain ⟨v, hv, rv⟩ := r.get h
    refine ⟨⟨vs, v, sq, hv⟩, fun y H'' ⟨e1, e2⟩ => ⟨e1, ?_⟩⟩
    have := e2 vs sq
    rw [hv] at this; cases this
    exact rv
theorem itok_rng {ρ : List Addr} {H : Hp} {lo : Int} {n : Nat} : ItOk K ρ H (itX (rngD lo n)) (Itr lo n) := by
  intro i ρ' S' H' e s
  refine ⟨fun h => ?_, fun x h => ?_⟩
  · have h : (rngD lo n)[i]? = none := Option.some.inj h
    have := List.getElem?_eq_none_iff.mp h
    simp [rngD] at this
    exact this
  · have h : (rngD lo n)[i]? = some x := Option.some.inj h
    have hl := (List.getElem?_eq_some_iff.mp h).1
    simp only [rngD, List.length_map, List.length_range] at hl
    refine ⟨hl, fun y H'' ⟨e1, e2⟩ => ⟨e1, ?_⟩⟩
    unfold rngD at h
    rw [List.getElem?_map, List.getElem?_range hl] at h
    cases h
    rw [e2]
    exact .int _
end
section
variable {X : Cx} {tgt iter : Expr} {m : EM} {mA : AM} {p0 pos' : Pos} {a a2 : Expr}
theorem i3_val (hi : PE3 X iter m) : PI3 X tgt iter (iVal m) := PI.imp (PI.or (pi_list hi) (pi_tup hi)) fun σ H R ⟨ρ, l, S, it, k, S', sim, ro, hm, p⟩ => by
  obtain ⟨⟨x, S1⟩, q1, hm⟩ := bnd hm
  dsimp only at hm
  split at hm
  · rename_i xs
    cases hm
    refine .inr ⟨ρ, l, S, .tup xs, _, sim, ro, q1, fun ρ1 H1 x' e1 s1 r1 => ?_⟩
    cases r1 with
    | @tup xs a vs ha r => exact ⟨a, rfl, ⟨vs, SqT.of ha⟩, p ρ1 H1 _ e1 s1 (itok_tup ha r)⟩
  · rename_i n
    obtain ⟨xs, hx, hm⟩ := bnd hm
    cases hm
    refine .inl ⟨ρ, l, S, .ref n, _, sim, ro, q1, fun ρ1 H1 x' e1 s1 r1 => ?_⟩
    obtain ⟨a, vs, ha, sq, rv⟩ := s1.lstOf hx
    cases r1 with
    | ref hn =>
      rw [ha] at hn; cases hn
      exact ⟨a, rfl, ⟨vs, sq⟩, p ρ1 H1 _ e1 s1 (itok_lst ha)⟩
  · cases hm
theorem i3_rng1 (hgl : Gl X "range") (hmg : X.mg "range" = none) (ha : PA3 X [a] mA) (hst : starEach [a] X.env = [(false, eval a X.env)] := by rfl) : PI3 X tgt (.Call (.Name "range" p0) [a] [] pos') (iRng (rng1 mA)) :=
  PI.imp (pi_range1 hgl hmg ha hst) fun σ H R ⟨ρ, l, S, it, k, S', sim, ro, hm, p⟩ => by
    obtain ⟨⟨⟨lo, n⟩, S1⟩, q1, hm⟩ := bnd hm
    cases hm
    obtain ⟨⟨xs, S2⟩, q2, q1⟩ := bnd q1
    dsimp only at q1
    split at q1
    · rename_i j
      obtain ⟨hz, e⟩ := ite_some q1
      cases e
      refine ⟨ρ, l, S, [.int j], _, sim, ro, q2, fun ρ1 H1 vs e1 s1 r1 => ?_⟩
      obtain ⟨v, rfl, rv⟩ := r1.one
      cases rv
      exact ⟨j, rfl, hz.1, hz.2, p ρ1 H1 _ e1 s1 itok_rng⟩
    · cases q1
end
def compG (it : ItM) (g : GM) (t : TM) (e : EM) : Nat → Nat → Lo → Sto → Option (List D × Sto)
  | 0, _, _, _ => none
  | k + 1, i, l, S => (it i S).bind fun o => match o with
    | none => some ([], S)
    | some x => (g x l S).bind fun p => (t p.1 p.2).bind fun q => if q.1 = true then (e p.1 q.2).bind fun r => (compG it g t e k (i + 1) p.1 r.2).bind fun z => some (r.1 :: z.1, z.2) else compG it g t e k (i + 1) p.1 q.2
def srcL {α : Type} (ixs : List (Option Nat)) (l : List (Option α)) : List (Option α) := ixs.map fun o => match o with
  | some j => (l[j]?).join
  | none => none
def eComp (im : IM) (ixs : List (Option Nat)) (g : GM) (t : TM) (e : EM) : EM := fun l S => (im l S).bind fun p => (compG p.1 g t e p.2.1 0 (srcL ixs l) p.2.2).bind fun z => if z.1.length ≤ sizeLine then some (.ref z.2.length, z.2 ++ [.lst z.1]) else none
def tTrue : TM := fun _ S => some (true, S)
theorem srcL_ro {ρ : List Addr} {H : Hp} {l : Lo} {σ : St} (ixs : List (Option Nat)) (r : RO ρ H l σ) : RO ρ H (srcL ixs l) (srcL ixs σ) := by
  refine ⟨by simp [srcL], fun i d h => ?_⟩
  unfold srcL at h ⊢
  rw [List.getElem?_map] at h ⊢
  cases e : ixs[i]? with
  | none => rw [e] at h; cases h
  | some o =>
    rw [e] at h
    cases o with
    | none => cases h
    | some j =>
      have h : ((l[j]?).join : Option D) = some d := Option.some.inj h
      cases e2 : l[j]? with
      | none => rw [e2] at h; cases h
      | some o2 =>
        rw [e2] at h
        have h : o2 = some d := h
        subst h
        obtain ⟨v, h1, h2⟩ := r.get j d e2
        exact ⟨v, by show some ((σ[j]?).join) = _; rw [h1]; rfl, h2⟩
theorem comp3 {K : PySem.W.Frag} {im : IM} {ixs : List (Option Nat)} {g : GM} {t : TM} {e : EM} (σ : St) (H : Hp) (Q : VK) (q : te K (eComp im ixs g t e) σ H Q) : tComp K (ti K im) (srcL ixs) (tg K g) (tt K t) (te K e) σ H Q := by
  obtain ⟨ρ, l, S, v, S', sim, ro, hm, p⟩ := q
  obtain ⟨⟨it, k, S1⟩, q1, hm⟩ := bnd hm
  obtain ⟨⟨all, S2⟩, q2, hm⟩ := bnd hm
  obtain ⟨hz, he⟩ := ite_some hm
  cases he
  refine ⟨ρ, l, S, it, k, S1, sim, ro, q1, fun ρ1 H1 J e1 s1 io D hD hK => ?_⟩
  dsimp only at q2 hz p
  refine ⟨fun i m σ' H' => ∃ ρ' l' S' ds vs rest, Ext ρ1 H1 ρ' H' ∧ Sim K ρ' S' H' ∧ RO ρ' H' l' σ' ∧ H' D = some (.lst vs) ∧ (∀ n : Nat, ρ'[n]? ≠ some D) ∧ RDs ρ' H' ds vs ∧ compG it g t e m i l' S' = some (rest, S2) ∧ ds ++ rest = all, ⟨k, ?_⟩, ?_⟩
  · exact ⟨ρ1, srcL ixs l, S1, [], [], all, ext_new hD, s1.laid hD, (srcL_ro ixs (ro.mono e1)).mono (ext_new hD), upd_same, s1.notin hD hK, .nil, q2, rfl⟩
  · rintro i m σ' H' ⟨ρ', l', S', ds, vs, rest, e2, s2, ro2, hD2, hn2, rd2, hc, hall⟩
    cases m with
    | zero => cases hc
    | succ m =>
      unfold compG at hc
      obtain ⟨o, ho, hc⟩ := bnd hc
      obtain ⟨iStop, iGo⟩ := io i ρ' S' H' e2 s2
      cases o with
      | none =>
        cases hc
        rw [List.append_nil] at hall
        subst hall
        refine .inl ⟨iStop ho, p (ρ' ++ [D]) H' (.ref D) (e1.trans (e2.adopt hD)) (s2.adopt hD2 hn2 rd2) (.ref ?_)⟩
        rw [← s2.len]; exact get_self ρ' D
      | some x =>
        obtain ⟨⟨l3, S3⟩, q3, hc⟩ := bnd hc
        obtain ⟨⟨b, S4⟩, q4, hc⟩ := bnd hc
        obtain ⟨hgo, hy⟩ := iGo x ho
        refine .inr ⟨hgo, _, fun σ' H' h => h, fun y H'' hyl => ?_⟩
        obtain ⟨rfl, ry⟩ := hy y H'' hyl
        refine ⟨ρ', l', S', x, l3, S3, s2, ro2, ry, q3, fun ρ3 H3 σ3 e3 s3 ro3 => ⟨ρ3, l3, S3, b, S4, s3, ro3, q4, fun ρ4 H4 e4 s4 => ?_⟩⟩
        obtain ⟨hD3, hn3⟩ := e3.out D _ hD2 hn2
        obtain ⟨hD4, hn4⟩ := e4.out D _ hD3 hn3
        cases b with
        | false => exact iteF ⟨m, Nat.lt_succ_self m, ρ4, l3, S4, ds, vs, rest, e2.trans (e3.trans e4), s4, ro3.mono e4, hD4, hn4, rd2.mono (e3.trans e4), hc, hall⟩
        | true =>
          have hc : ((e l3 S4).bind fun r => (compG it g t e m (i + 1) l3 r.2).bind fun z => some (r.1 :: z.1, z.2)) = some (rest, S2) := hc
          obtain ⟨⟨y5, S5⟩, q5, hc⟩ := bnd hc
          obtain ⟨⟨rest', S6⟩, q6, hc⟩ := bnd hc
          cases hc
          refine iteT ⟨ρ4, l3, S4, y5, S5, s4, ro3.mono e4, q5, fun ρ5 H5 v5 e5 s5 r5 => ?_⟩
          obtain ⟨hD5, hn5⟩ := e5.out D _ hD4 hn4
          have e25 := e2.trans (e3.trans (e4.trans e5))
          have rd5 := rd2.mono (e3.trans (e4.trans e5))
          have hlen : vs.length < sizeLine := by
            have h1 := rd5.length
            have h2 := congrArg List.length hall
            rw [List.length_append, List.length_cons] at h2
            omega
          refine ⟨vs, hD5, hlen, m, Nat.lt_succ_self m, ρ5, l3, S5, ds ++ [y5], vs ++ [v5], rest', e25.beside hD hD5, s5.beside hD5 hn5, ?_, upd_same, hn5, ((rd5.append (.cons r5 .nil)).mono0 (ext0_upd hD5)), q6, by rw [← hall]; simp⟩
          have r0 := (ro3.mono e4).mono e5
          exact ⟨r0.len, fun i d h => let ⟨w, h1, h2⟩ := r0.get i d h; ⟨w, h1, h2.mono0 (ext0_upd hD5)⟩⟩
theorem pts3_nil {X : Cx} : PTs X [] (tt X.K tTrue) := fun pins s σ H Q I ⟨ρ, l, S, v, S', sim, ro, hm, p⟩ => by
  cases hm
  exact pts_nil pins s σ H Q I (p ρ H (Ext.refl ..) sim)
theorem pts3_one {X : Cx} {c : Expr} {t : TM} (h : PT3 X c t) : PTs X [c] (tt X.K t) := pts_one h
theorem p3_comp {X : Cx} {N' : List Str} {elt iter tgt : Expr} {ifs : List Expr} {scope : Scope} {pos : Pos} {im : IM} {ixs : List (Option Nat)} {g : GM} {t : TM} {e : EM} (hcalm : X.calm = true) (sc : CompSc X N' scope (srcL ixs))
    (hi : PI3 X tgt iter im) (hg : ∀ C s H fp pins, PG3 (cxC X N' scope C s H fp pins) tgt g) (ht : ∀ C s H fp pins, PTs (cxC X N' scope C s H fp pins) ifs (tt X.K t)) (he : ∀ C s H fp pins, PE3 (cxC X N' scope C s H fp pins) elt e)
    (hs : ∀ x, foldedSetIterable iter X.env x = pure x := by intro _; rfl) : PE3 X (.ListComp elt [⟨tgt, iter, ifs, 0⟩] scope pos) (eComp im ixs g t e) :=
  PE.imp (pe_comp (g := tg X.K g) (tts := tt X.K t) (t := te X.K e) hcalm sc hi hg ht he hs) comp3
theorem s3_setc (j : Nat) {X : Cx} {N' : List Str} {elt iter tgt : Expr} {ifs : List Expr} {scope : Scope} {pos spos py : Pos} {y : Str} {im : IM} {ixs : List (Option Nat)} {g : GM} {t : TM} {e : EM} (hN : X.N.Nodup) (hcalm : X.calm = true) (sc : CompSc X N' scope (srcL ixs))
    (hi : PI3 X tgt iter im) (hg : ∀ C s H fp pins, PG3 (cxC X N' scope C s H fp pins) tgt g) (ht : ∀ C s H fp pins, PTs (cxC X N' scope C s H fp pins) ifs (tt X.K t)) (he : ∀ C s H fp pins, PE3 (cxC X N' scope C s H fp pins) elt e)
    (hi' : X.N[j]? = some y := by rfl) (hx : Loc X.env.scope y := by first | exact Or.inl rfl | exact Or.inr rfl)
    (hsw : swapsWith (.ListComp elt [⟨tgt, iter, ifs, 0⟩] scope pos) (some (.Name y py)) spos.line X.env = pure true := by with_unfolding_all rfl) (hf : X.fn y = true ∨ X.env.scope.names.lookup y = some .local := by first | exact .inl rfl | exact .inr rfl | assumption)
    (hs : ∀ x, foldedSetIterable iter X.env x = pure x := by intro _; rfl) : PS3 X (.Assign [.Name y py] (.ListComp elt [⟨tgt, iter, ifs, 0⟩] scope pos) spos) (sAsg (eComp im ixs g t e) (gName3 j)) :=
  PS.imp (ps_comp (g := tg X.K g) (tts := tt X.K t) (t := te X.K e) hN hi' hx hsw hf hcalm sc hi hg ht he hs) fun E σ H ⟨ρ, l, S, f, l', S', sim, ro, hm, p⟩ => by
    obtain ⟨⟨x, S1⟩, q1, hm⟩ := bnd hm
    cases hm
    exact comp3 σ H _ ⟨ρ, l, S, x, S1, sim, ro, q1, fun ρ1 H1 x' e1 s1 r1 => p ρ1 H1 _ e1 s1 ((ro.mono e1).set j r1)⟩
end L3
set_option Elab.async false
set_option maxHeartbeats 4000000
namespace L3
open PySem PySem.Spec PyProof.Rows L2
def dPlus : D → D → Sto → Option (D × Sto)
  | .int i, .int j, S => some (.int (i + j), S)
  | .tup xs, .tup ys, S => if xs.length + ys.length ≤ sizeLine then some (.tup (xs ++ ys), S) else none
  | .ref n, .ref m, S => match S[n]?, S[m]? with
    | some (.lst xs), some (.lst ys) => if xs.length + ys.length ≤ sizeLine then some (.ref S.length, S ++ [.lst (xs ++ ys)]) else none
    | _, _ => none
  | _, _, _ => none
theorem op3_plus {K : PySem.W.Frag} : Op3 K dPlus (fun x y H Q => rI0 (fun i j => .int (i + j)) x y H Q ∨ (rCatT K x y H Q ∨ rCatT0 K x y H Q) ∨ rCat x y H Q) := by
  intro ρ S H x y x' y' v S' Q sim rx ry h p
  unfold dPlus at h
  split at h
  · cases rx; cases ry; cases h
    exact .inl ⟨_, _, rfl, rfl, p ρ H _ (Ext.refl ..) sim (.int _)⟩
  · refine .inr (.inl (op3_catT ρ S H _ _ x' y' v S' Q sim rx ry ?_ p))
    unfold dCatT
    exact h
  · split at h
    · rename_i xs ys e1 e2
      obtain ⟨hz, e⟩ := ite_some h
      cases e
      obtain ⟨a, us, ha, hH, r2⟩ := sim.lst e1
      obtain ⟨b, ws, hb, hH2, r3⟩ := sim.lst e2
      cases rx with
      | ref hn =>
        rw [ha] at hn; cases hn
        cases ry with
        | ref hm =>
          rw [hb] at hm; cases hm
          exact .inr (.inr ⟨a, b, us, ws, rfl, rfl, hH, hH2, by rw [← r2.length, ← r3.length]; exact hz, new_lst sim (r2.append r3) p⟩)
    · cases h
  · cases h
section
variable {X : Cx} {a b : Expr} {ma mb : EM} {pos : Pos}
end
def Has (P : Program) (w : World) (K : PySem.W.Frag) (mg : Str → Option Value) (base : Heap) (x : Str) (k n : Nat) (m : FM) : Prop :=
  ∃ (f : Addr) (fd : FuncData) (ps : List Str), FnOk P w K mg base CX0 k f fd ps (sp3 K n m) ∧ mg x = some (.ref f) ∧ PySem.W.keepIn K (.ref f) = true ∧ Binds K fd ps []
section
variable {X : Cx} {a : Expr} {es : List Expr} {mA : AM} {pos p : Pos} {x : Str} {k j n : Nat} {m : FM}
theorem p3_fn (F : Has X.prog X.w X.K X.mg X.base x k n m) (hr : Room j X.A) (hkj : k ≤ j) (hg : Gl X x)
    (ha : PA3 X (a :: es) mA) (hl : ∀ l S v S', mA l S = some (v, S') → v.length = n) (hdb : (x == ("__debug__" : Str)) = false := by decide) (he : starEach (a :: es) X.env = (false, eval a X.env) :: starEach es X.env := by rfl) (hpl : (backTo pos (starEach es X.env)).any (·.1) = false := by rfl) :
    PE3 X (.Call (.Name x p) (a :: es) [] pos) (eCall m mA) := by
  obtain ⟨f, fd, ps, F, hm, hk, hb⟩ := F
  exact p3_call F (hr.mono hkj) hg hm hk hb ha hl hdb he hpl
theorem boot_abs' : bootBuiltins "abs" = some (.builtin "abs") := by decide +kernel
theorem boot_tuple' : bootBuiltins "tuple" = some (.type "tuple") := by decide +kernel
theorem p3_abs (hg : Gl X "abs") (hm : X.mg "abs" = none) (ha : PA3 X (a :: es) mA) (he : starEach (a :: es) X.env = (false, eval a X.env) :: starEach es X.env := by rfl) (hpl : (backTo pos (starEach es X.env)).any (·.1) = false := by rfl) : PE3 X (.Call (.Name "abs" p) (a :: es) [] pos) (eCall fAbs mA) :=
  p3_callB call_abs fn3_abs hg hm boot_abs' ha (by decide) (by decide) he hpl
theorem p3_tuple1 (hg : Gl X "tuple") (hm : X.mg "tuple" = none) (ha : PA3 X (a :: es) mA) (he : starEach (a :: es) X.env = (false, eval a X.env) :: starEach es X.env := by rfl) (hpl : (backTo pos (starEach es X.env)).any (·.1) = false := by rfl) : PE3 X (.Call (.Name "tuple" p) (a :: es) [] pos) (eCall fTuple mA) :=
  p3_callTy call_tuple_of fn3_tuple hg hm boot_tuple' ha (by decide) (by decide) he hpl
end
theorem has_of {P : Program} {w : World} {K : PySem.W.Frag} {mg : Str → Option Value} {base : Heap} {x : Str} {st : Stmt} {f : Addr} {fd : FuncData} {N ps : List Str} {k n : Nat} {b : SM} (F : Fun K x x st f fd) (hm : mg x = some (.ref f)) (S : FnScope N ps (defScope st)) (hn : ps.length = n) (hb : Binds K fd ps [])
    (hbody : ∀ (cdv : Value), PySem.W.codeIn K cdv x = true → ∀ (A : Around) (outer : List Env) (s : Shared) (H : Hp) (E : XK), Room k (A.deeper (envOfC x (defScope st) s.heap.objs.size f cdv)) →
      PSs3 (cxOf CX0 P w K mg base N x (defScope st) f cdv A outer s H E).nox (defBody st) b) : Has P w K mg base x (k + 1) n (runB N.length b) :=
  ⟨f, fd, ps, fun3 F S hn hbody, hm, F.kp, hb⟩
def chk (scO scope : Scope) (NO N' : List Str) (ixs : List (Option Nat)) : Bool :=
  decide (scope.kind = .function) && (scope.names.all fun y => y.2 != .cell) && (scope.names.all fun y => y.2 != .local || scope.names.lookup y.1 == some .local) &&
  (scope.names.all fun y => y.2 != .free || (scO.names.lookup y.1 == some .cell || scO.names.lookup y.1 == some .free)) && (ixs.length == N'.length) &&
  ((List.range ixs.length).all fun i => match ixs[i]? with | some (some j) => (NO[j]? == N'[i]? && (match N'[i]? with | some x => scope.names.lookup x == some .free | none => false)) | _ => true)
theorem compSc_of {X : Cx} {scO scope : Scope} {NO N' : List Str} {ixs : List (Option Nat)} (hX : X.env.scope = scO) (hN : X.N = NO) (h : chk scO scope NO N' ixs = true) : CompSc X N' scope (srcL ixs) := by
  unfold chk at h
  simp only [Bool.and_eq_true, decide_eq_true_eq, List.all_eq_true, beq_iff_eq, Bool.or_eq_true, bne_iff_ne, ne_eq] at h
  obtain ⟨⟨⟨⟨⟨h1, h2⟩, h3⟩, h4⟩, h5⟩, h6⟩ := h
  refine ⟨h1, h2, fun y hy hl => ?_, fun y hy hl => ?_, fun y hy => ?_, fun σ => by simp [srcL, h5], fun σ i v x hv hx => ?_⟩
  · rcases h3 y hy with z | z
    · exact absurd hl z
    · exact z
  · show X.env.scope.names.lookup y.1 = _ ∨ X.env.scope.names.lookup y.1 = _
    rw [hX]
    rcases h4 y hy with z | z
    · exact absurd hl z
    · exact z
  · have mem : ∃ k, (k = NameKind.cell ∨ k = NameKind.free) ∧ (y, k) ∈ (relabel scope X.env).names := by
      rcases hy with z | z
      · exact ⟨_, .inl rfl, PySem.mem_of_lookup z⟩
      · exact ⟨_, .inr rfl, PySem.mem_of_lookup z⟩
    obtain ⟨k, hk, hm⟩ := mem
    unfold relabel at hm
    obtain ⟨⟨n, k'⟩, hm1, hm2⟩ := List.mem_map.mp hm
    dsimp only at hm2
    split at hm2
    · rename_i hc
      have : k' = .free := by
        rw [Bool.and_eq_true, Bool.and_eq_true] at hc
        exact eq_of_beq hc.1.1
      cases hm2
      rw [← this]; exact hm1
    · cases hm2
      rcases hk with z | z
      · exact absurd z (h2 _ hm1)
      · rw [← z]; exact hm1
  · have hl : i < ixs.length := by
      have := (List.getElem?_eq_some_iff.mp hv).1
      simpa [srcL] using this
    unfold srcL at hv
    rw [List.getElem?_map] at hv
    have q := h6 i (List.mem_range.mpr hl)
    cases e : ixs[i]? with
    | none => rw [e] at hv; cases hv
    | some o =>
      rw [e] at hv
      cases o with
      | none => cases hv
      | some j =>
        rw [e] at q
        dsimp only at q
        rw [hx] at q
        simp only [Bool.and_eq_true, beq_iff_eq] at q
        have hv : ((σ[j]?).join : Option V) = some v := Option.some.inj hv
        refine ⟨j, by rw [hN]; exact q.1, ?_, q.2⟩
        cases e2 : σ[j]? with
        | none => rw [e2] at hv; cases hv
        | some o2 => rw [e2] at hv; have hv : o2 = some v := hv; rw [hv]
theorem law_sp {K : PySem.W.Frag} {H : Hp} {a : Addr} {ns : List Int} {m : FM} (hO : Only H) (hS : SqL K H a (ns.map V.int)) (h : ∃ S', m [.ref 0] [.flst (ns.map D.int)] = some (.bl true, S')) : sp3 K 1 m [.ref a] H (fun v _ => v = .bl true) fun _ _ _ => False := by
  obtain ⟨S', h⟩ := h
  have rn : ∀ ns : List Int, RDs [a] H (ns.map D.int) (ns.map V.int) := fun ns => by
    induction ns with
    | nil => exact .nil
    | cons x r ih => exact .cons (.int x) ih
  refine ⟨rfl, [a], [.ref 0], _, _, S', ⟨rfl, fun i j b o1 o2 h1 h2 h3 h4 m1 m2 => ?_, fun n b o h1 h2 => ?_⟩, .cons (.ref rfl) .nil, h, fun ρ' H' v' e s r => ?_⟩
  · cases i with
    | zero => cases h3; cases m1
    | succ i => cases h3
  · cases n with
    | succ n => cases h1
    | zero =>
      cases h1; cases h2
      refine ⟨_, ?_, rn ns⟩
      rcases hS with (z | ⟨o, z⟩) | z
      · rcases hO a with y | ⟨o, xs, y⟩ <;> (rw [z] at y; cases y)
      · exact .inl ⟨o, z⟩
      · exact .inr z
  · cases r; rfl
def top (b : List Stmt) (i : Nat) : Stmt := b.getD i (.Pass ⟨0, 0, 0, 0⟩)
end L3
set_option Elab.async false
set_option maxHeartbeats 4000000
namespace L3
open PySem
def We (m : EM) (l : Lo) (S : Sto) (Q : D → Sto → Prop) : Prop := ∃ v S', m l S = some (v, S') ∧ Q v S'
def Wt (m : TM) (l : Lo) (S : Sto) (Q : Bool → Sto → Prop) : Prop := ∃ v S', m l S = some (v, S') ∧ Q v S'
def Wa (m : AM) (l : Lo) (S : Sto) (Q : List D → Sto → Prop) : Prop := ∃ v S', m l S = some (v, S') ∧ Q v S'
def Wo (o : Option (D × Sto)) (Q : D → Sto → Prop) : Prop := ∃ v S', o = some (v, S') ∧ Q v S'
def Wg (o : Option (Lo × Sto)) (Q : Lo → Sto → Prop) : Prop := ∃ l S', o = some (l, S') ∧ Q l S'
def Wr (o : Option (Fl × Lo × Sto)) (Q : Fl → Lo → Sto → Prop) : Prop := ∃ f l S', o = some (f, l, S') ∧ Q f l S'
abbrev Ws (m : SM) (l : Lo) (S : Sto) (Q : Fl → Lo → Sto → Prop) : Prop := Wr (m l S) Q
section
variable {a b c : EM} {t u : TM} {l : Lo} {S : Sto} {Q : D → Sto → Prop} {QB : Bool → Sto → Prop} {QA : List D → Sto → Prop} {QS : Fl → Lo → Sto → Prop} {QG : Lo → Sto → Prop}
theorem we_var {i : Nat} : We (eVar i) l S Q = ∃ d, l[i]? = some (some d) ∧ Q d S := by
  apply propext; unfold We eVar
  constructor
  · rintro ⟨v, S', h, q⟩
    split at h
    · rename_i d e; cases h; exact ⟨_, e, q⟩
    · cases h
  · rintro ⟨d, e, q⟩
    exact ⟨d, S, by rw [e], q⟩
theorem we_c {d : D} : We (eC d) l S Q = Q d S := by
  apply propext; unfold We eC
  exact ⟨fun ⟨v, S', h, q⟩ => by cases h; exact q, fun q => ⟨_, _, rfl, q⟩⟩
theorem we_op {f : D → D → Sto → Option (D × Sto)} : We (eOp f a b) l S Q = We a l S fun x S1 => We b l S1 fun y S2 => Wo (f x y S2) Q := by
  apply propext
  constructor
  · rintro ⟨v, S', h, q⟩
    obtain ⟨⟨x, S1⟩, h1, h⟩ := bnd h
    obtain ⟨⟨y, S2⟩, h2, h⟩ := bnd h
    exact ⟨x, S1, h1, y, S2, h2, v, S', h, q⟩
  · rintro ⟨x, S1, h1, y, S2, h2, v, S', h, q⟩
    exact ⟨v, S', by unfold eOp; rw [h1]; show (b l S1).bind _ = _; rw [h2]; exact h, q⟩
theorem we_un {f : D → Sto → Option (D × Sto)} : We (eUn f a) l S Q = We a l S fun x S1 => Wo (f x S1) Q := by
  apply propext
  constructor
  · rintro ⟨v, S', h, q⟩
    obtain ⟨⟨x, S1⟩, h1, h⟩ := bnd h
    exact ⟨x, S1, h1, v, S', h, q⟩
  · rintro ⟨x, S1, h1, v, S', h, q⟩
    exact ⟨v, S', by unfold eUn; rw [h1]; exact h, q⟩
theorem wa_nil : Wa aNil l S QA = QA [] S := by
  apply propext
  exact ⟨fun ⟨v, S', h, q⟩ => by cases h; exact q, fun q => ⟨_, _, rfl, q⟩⟩
theorem wa_cons {r : AM} : Wa (aCons a r) l S QA = We a l S fun x S1 => Wa r l S1 fun xs S2 => QA (x :: xs) S2 := by
  apply propext
  constructor
  · rintro ⟨v, S', h, q⟩
    obtain ⟨⟨x, S1⟩, h1, h⟩ := bnd h
    obtain ⟨⟨y, S2⟩, h2, h⟩ := bnd h
    cases h
    exact ⟨x, S1, h1, y, _, h2, q⟩
  · rintro ⟨x, S1, h1, y, S2, h2, q⟩
    exact ⟨x :: y, S2, by unfold aCons; rw [h1]; show (r l S1).bind _ = _; rw [h2]; rfl, q⟩
theorem we_call {f : FM} {r : AM} : We (eCall f r) l S Q = Wa r l S fun xs S1 => Wo (f xs S1) Q := by
  apply propext
  constructor
  · rintro ⟨v, S', h, q⟩
    obtain ⟨⟨x, S1⟩, h1, h⟩ := bnd h
    exact ⟨x, S1, h1, v, S', h, q⟩
  · rintro ⟨x, S1, h1, v, S', h, q⟩
    exact ⟨v, S', by unfold eCall; rw [h1]; exact h, q⟩
theorem we_methL {f : D → List D → Sto → Option (D × Sto)} {r : AM} : We (eMethL f a r) l S Q = We a l S fun x S1 => (∃ xs, recvL x S1 = some xs) ∧ Wa r l S1 fun ys S2 => Wo (f x ys S2) Q := by
  apply propext
  constructor
  · rintro ⟨v, S', h, q⟩
    obtain ⟨⟨x, S1⟩, h1, h⟩ := bnd h
    obtain ⟨xs, h2, h⟩ := bnd h
    obtain ⟨⟨y, S2⟩, h3, h⟩ := bnd h
    exact ⟨x, S1, h1, ⟨xs, h2⟩, y, S2, h3, v, S', h, q⟩
  · rintro ⟨x, S1, h1, ⟨xs, h2⟩, y, S2, h3, v, S', h, q⟩
    refine ⟨v, S', ?_, q⟩
    unfold eMethL; rw [h1]; show (recvL x S1).bind _ = _; rw [h2]; show (r l S1).bind _ = _; rw [h3]; exact h
theorem wt_e : Wt (tE a) l S QB = We a l S fun x S1 => ∃ k, x = .bl k ∧ QB k S1 := by
  apply propext
  constructor
  · rintro ⟨v, S', h, q⟩
    obtain ⟨⟨x, S1⟩, h1, h⟩ := bnd h
    refine ⟨x, S1, h1, ?_⟩
    cases x with
    | bl k => cases h; exact ⟨_, rfl, q⟩
    | _ => cases h
  · rintro ⟨x, S1, h1, k, rfl, q⟩
    exact ⟨k, S1, by unfold tE; rw [h1]; rfl, q⟩
theorem wt_and : Wt (tAnd3 t u) l S QB = Wt t l S fun k S1 => if k = true then Wt u l S1 QB else QB false S1 := by
  apply propext
  constructor
  · rintro ⟨v, S', h, q⟩
    obtain ⟨⟨x, S1⟩, h1, h⟩ := bnd h
    refine ⟨x, S1, h1, ?_⟩
    cases x with
    | true => exact ⟨v, S', h, q⟩
    | false => cases h; exact q
  · rintro ⟨x, S1, h1, h⟩
    cases x with
    | true => obtain ⟨v, S', h, q⟩ := h; exact ⟨v, S', by unfold tAnd3; rw [h1]; exact h, q⟩
    | false => exact ⟨false, S1, by unfold tAnd3; rw [h1]; rfl, h⟩
theorem wt_or : Wt (tOr3 t u) l S QB = Wt t l S fun k S1 => if k = true then QB true S1 else Wt u l S1 QB := by
  apply propext
  constructor
  · rintro ⟨v, S', h, q⟩
    obtain ⟨⟨x, S1⟩, h1, h⟩ := bnd h
    refine ⟨x, S1, h1, ?_⟩
    cases x with
    | false => exact ⟨v, S', h, q⟩
    | true => cases h; exact q
  · rintro ⟨x, S1, h1, h⟩
    cases x with
    | false => obtain ⟨v, S', h, q⟩ := h; exact ⟨v, S', by unfold tOr3; rw [h1]; exact h, q⟩
    | true => exact ⟨true, S1, by unfold tOr3; rw [h1]; rfl, h⟩
theorem wt_not : Wt (tNot3 t) l S QB = Wt t l S fun k S1 => QB (!k) S1 := by
  apply propext
  constructor
  · rintro ⟨v, S', h, q⟩
    obtain ⟨⟨x, S1⟩, h1, h⟩ := bnd h
    cases h
    exact ⟨x, _, h1, q⟩
  · rintro ⟨x, S1, h1, q⟩
    exact ⟨!x, S1, by unfold tNot3; rw [h1]; rfl, q⟩
theorem wt_true : Wt tTrue l S QB = QB true S := by
  apply propext
  exact ⟨fun ⟨v, S', h, q⟩ => by cases h; exact q, fun q => ⟨_, _, rfl, q⟩⟩
theorem we_and : We (eAnd3 a b) l S Q = We a l S fun x S1 => ∃ k, x = .bl k ∧ if k = true then We b l S1 Q else Q (.bl false) S1 := by
  apply propext
  constructor
  · rintro ⟨v, S', h, q⟩
    obtain ⟨⟨x, S1⟩, h1, h⟩ := bnd h
    refine ⟨x, S1, h1, ?_⟩
    cases x with
    | bl k =>
      cases k with
      | true => exact ⟨true, rfl, v, S', h, q⟩
      | false => cases h; exact ⟨false, rfl, q⟩
    | _ => cases h
  · rintro ⟨x, S1, h1, k, rfl, h⟩
    cases k with
    | true => obtain ⟨v, S', h, q⟩ := h; exact ⟨v, S', by unfold eAnd3; rw [h1]; exact h, q⟩
    | false => exact ⟨_, S1, by unfold eAnd3; rw [h1]; rfl, h⟩
theorem we_or : We (eOr3 a b) l S Q = We a l S fun x S1 => ∃ k, x = .bl k ∧ if k = true then Q (.bl true) S1 else We b l S1 Q := by
  apply propext
  constructor
  · rintro ⟨v, S', h, q⟩
    obtain ⟨⟨x, S1⟩, h1, h⟩ := bnd h
    refine ⟨x, S1, h1, ?_⟩
    cases x with
    | bl k =>
      cases k with
      | false => exact ⟨false, rfl, v, S', h, q⟩
      | true => cases h; exact ⟨true, rfl, q⟩
    | _ => cases h
  · rintro ⟨x, S1, h1, k, rfl, h⟩
    cases k with
    | false => obtain ⟨v, S', h, q⟩ := h; exact ⟨v, S', by unfold eOr3; rw [h1]; exact h, q⟩
    | true => exact ⟨_, S1, by unfold eOr3; rw [h1]; rfl, h⟩
theorem we_not : We (eNot3 a) l S Q = We a l S fun x S1 => ∃ k, x = .bl k ∧ Q (.bl (!k)) S1 := by
  apply propext
  constructor
  · rintro ⟨v, S', h, q⟩
    obtain ⟨⟨x, S1⟩, h1, h⟩ := bnd h
    refine ⟨x, S1, h1, ?_⟩
    cases x with
    | bl k => cases h; exact ⟨k, rfl, q⟩
    | _ => cases h
  · rintro ⟨x, S1, h1, k, rfl, h⟩
    exact ⟨_, S1, by unfold eNot3; rw [h1]; rfl, h⟩
theorem we_if : We (eIf3 t a b) l S Q = Wt t l S fun k S1 => if k = true then We a l S1 Q else We b l S1 Q := by
  apply propext
  constructor
  · rintro ⟨v, S', h, q⟩
    obtain ⟨⟨x, S1⟩, h1, h⟩ := bnd h
    refine ⟨x, S1, h1, ?_⟩
    cases x with
    | true => exact ⟨v, S', h, q⟩
    | false => exact ⟨v, S', h, q⟩
  · rintro ⟨x, S1, h1, h⟩
    cases x with
    | true => obtain ⟨v, S', h, q⟩ := h; exact ⟨v, S', by unfold eIf3; rw [h1]; exact h, q⟩
    | false => obtain ⟨v, S', h, q⟩ := h; exact ⟨v, S', by unfold eIf3; rw [h1]; exact h, q⟩
variable {m n : SM}
theorem ws_next : Ws sNext l S QS = QS .nx l S := by
  apply propext
  exact ⟨fun ⟨f, v, S', h, q⟩ => by cases h; exact q, fun q => ⟨_, _, _, rfl, q⟩⟩
theorem ws_break : Ws sBreak l S QS = QS .bk l S := by
  apply propext
  exact ⟨fun ⟨f, v, S', h, q⟩ => by cases h; exact q, fun q => ⟨_, _, _, rfl, q⟩⟩
theorem ws_cont : Ws sCont l S QS = QS .ct l S := by
  apply propext
  exact ⟨fun ⟨f, v, S', h, q⟩ => by cases h; exact q, fun q => ⟨_, _, _, rfl, q⟩⟩
theorem ws_seq : Ws (sSeq m n) l S QS = Ws m l S fun f l1 S1 => match f with | .nx => Ws n l1 S1 QS | f => QS f l1 S1 := by
  apply propext
  constructor
  · rintro ⟨f, v, S', h, q⟩
    obtain ⟨⟨g, l1, S1⟩, h1, h⟩ := bnd h
    refine ⟨g, l1, S1, h1, ?_⟩
    cases g with
    | nx => exact ⟨f, v, S', h, q⟩
    | _ => cases h; exact q
  · rintro ⟨g, l1, S1, h1, h⟩
    cases g with
    | nx => obtain ⟨f, v, S', h, q⟩ := h; exact ⟨f, v, S', by unfold sSeq; rw [h1]; exact h, q⟩
    | bk => exact ⟨_, _, _, by unfold sSeq; rw [h1]; rfl, h⟩
    | ct => exact ⟨_, _, _, by unfold sSeq; rw [h1]; rfl, h⟩
    | rt d => exact ⟨_, _, _, by unfold sSeq; rw [h1]; rfl, h⟩
theorem ws_cut (R : Lo → Sto → Prop) (h1 : Ws m l S fun f l1 S1 => f = .nx ∧ R l1 S1) (h2 : ∀ l1 S1, R l1 S1 → Ws n l1 S1 QS) : Ws (sSeq m n) l S QS := by
  rw [ws_seq]
  obtain ⟨f, l1, S1, e, rfl, r⟩ := h1
  exact ⟨_, _, _, e, h2 l1 S1 r⟩
theorem ws_if : Ws (sIf t m n) l S QS = Wt t l S fun k S1 => if k = true then Ws m l S1 QS else Ws n l S1 QS := by
  apply propext
  constructor
  · rintro ⟨f, v, S', h, q⟩
    obtain ⟨⟨x, S1⟩, h1, h⟩ := bnd h
    refine ⟨x, S1, h1, ?_⟩
    cases x with
    | true => exact ⟨f, v, S', h, q⟩
    | false => exact ⟨f, v, S', h, q⟩
  · rintro ⟨x, S1, h1, h⟩
    cases x with
    | true => obtain ⟨f, v, S', h, q⟩ := h; exact ⟨f, v, S', by unfold sIf; rw [h1]; exact h, q⟩
    | false => obtain ⟨f, v, S', h, q⟩ := h; exact ⟨f, v, S', by unfold sIf; rw [h1]; exact h, q⟩
theorem ws_drop : Ws (sDrop a) l S QS = We a l S fun _ S1 => QS .nx l S1 := by
  apply propext
  constructor
  · rintro ⟨f, v, S', h, q⟩
    obtain ⟨⟨x, S1⟩, h1, h⟩ := bnd h
    cases h
    exact ⟨x, _, h1, q⟩
  · rintro ⟨x, S1, h1, q⟩
    exact ⟨_, _, _, by unfold sDrop; rw [h1]; rfl, q⟩
theorem ws_ret : Ws (sRet a) l S QS = We a l S fun x S1 => QS (.rt x) l S1 := by
  apply propext
  constructor
  · rintro ⟨f, v, S', h, q⟩
    obtain ⟨⟨x, S1⟩, h1, h⟩ := bnd h
    cases h
    exact ⟨x, _, h1, q⟩
  · rintro ⟨x, S1, h1, q⟩
    exact ⟨_, _, _, by unfold sRet; rw [h1]; rfl, q⟩
theorem ws_asg {g : GM} : Ws (sAsg a g) l S QS = We a l S fun x S1 => Wg (g x l S1) fun l2 S2 => QS .nx l2 S2 := by
  apply propext
  constructor
  · rintro ⟨f, v, S', h, q⟩
    obtain ⟨⟨x, S1⟩, h1, h⟩ := bnd h
    obtain ⟨⟨l2, S2⟩, h2, h⟩ := bnd h
    cases h
    exact ⟨x, S1, h1, _, _, h2, q⟩
  · rintro ⟨x, S1, h1, l2, S2, h2, q⟩
    refine ⟨_, _, _, ?_, q⟩
    unfold sAsg; rw [h1]; show (g x l S1).bind _ = _; rw [h2]; rfl
theorem wg_name {i : Nat} {d : D} : Wg (gName3 i d l S) QG = QG (l.set i (some d)) S := by
  apply propext
  exact ⟨fun ⟨v, S', h, q⟩ => by cases h; exact q, fun q => ⟨_, _, rfl, q⟩⟩
theorem wg_tup {k : Nat} {gs : GsM} {xs : List D} : Wg (gTup3 k gs (.tup xs) l S) QG = (xs.length = k ∧ Wg (gs xs l S) QG) := by
  apply propext
  constructor
  · rintro ⟨v, S', h, q⟩
    have h : (if xs.length = k then gs xs l S else none) = some (v, S') := h
    by_cases hl : xs.length = k
    · rw [if_pos hl] at h; exact ⟨hl, v, S', h, q⟩
    · rw [if_neg hl] at h; cases h
  · rintro ⟨hl, v, S', h, q⟩
    exact ⟨v, S', by show (if xs.length = k then gs xs l S else none) = _; rw [if_pos hl]; exact h, q⟩
theorem wg_nil : Wg (gNil3 [] l S) QG = QG l S := by
  apply propext
  exact ⟨fun ⟨v, S', h, q⟩ => by cases h; exact q, fun q => ⟨_, _, rfl, q⟩⟩
theorem wg_cons {g : GM} {gs : GsM} {x : D} {xs : List D} : Wg (gCons3 g gs (x :: xs) l S) QG = Wg (g x l S) fun l1 S1 => Wg (gs xs l1 S1) QG := by
  apply propext
  constructor
  · rintro ⟨v, S', h, q⟩
    obtain ⟨⟨l1, S1⟩, h1, h⟩ := bnd h
    exact ⟨l1, S1, h1, v, S', h, q⟩
  · rintro ⟨l1, S1, h1, v, S', h, q⟩
    exact ⟨v, S', by show (g x l S).bind _ = _; rw [h1]; exact h, q⟩
theorem wg_sub {o i : EM} {v : D} : Wg (gSub3 o i v l S) QG = We o l S fun x S1 => We i l S1 fun y S2 => ∃ S', setIx x y v S2 = some S' ∧ QG l S' := by
  apply propext
  constructor
  · rintro ⟨l', S', h, q⟩
    obtain ⟨⟨x, S1⟩, h1, h⟩ := bnd h
    obtain ⟨⟨y, S2⟩, h2, h⟩ := bnd h
    obtain ⟨S3, h3, h⟩ := bnd h
    cases h
    exact ⟨x, S1, h1, y, S2, h2, _, h3, q⟩
  · rintro ⟨x, S1, h1, y, S2, h2, S3, h3, q⟩
    refine ⟨l, S3, ?_, q⟩
    unfold gSub3; rw [h1]; show (i l S1).bind _ = _; rw [h2]; show (setIx x y v S2).bind _ = _; rw [h3]; rfl
theorem wo_some {d : D} : Wo (some (d, S)) Q = Q d S := by
  apply propext
  exact ⟨fun ⟨v, S', h, q⟩ => by cases h; exact q, fun q => ⟨_, _, rfl, q⟩⟩
theorem wo_bind {α : Type} {o : Option α} {f : α → Option (D × Sto)} : Wo (o.bind f) Q = ∃ x, o = some x ∧ Wo (f x) Q := by
  cases o with
  | none => simp [Wo]
  | some x => simp [Wo]
theorem wo_ite {p : Prop} [Decidable p] {x : D × Sto} : Wo (if p then some x else none) Q = (p ∧ Q x.1 x.2) := by
  obtain ⟨a, b⟩ := x
  by_cases hp : p
  · rw [if_pos hp]
    apply propext
    exact ⟨fun ⟨v, S', h, q⟩ => by cases h; exact ⟨hp, q⟩, fun q => ⟨a, b, rfl, q.2⟩⟩
  · simp [hp, Wo]
theorem wo_I0 {g : Int → Int → D} {i j : Int} : Wo (oI0 g (.int i) (.int j) S) Q = Q (g i j) S := wo_some
theorem wo_I {C : Int → Int → Bool} {g : Int → Int → D} {i j : Int} : Wo (oI C g (.int i) (.int j) S) Q = (C i j = true ∧ Q (g i j) S) := wo_ite
theorem wo_ixT {xs : List D} {i : Int} : Wo (dIx (.tup xs) (.int i) S) Q = ∃ v, L2.atI xs i = some v ∧ Q v S := by
  show Wo ((L2.atI xs i).bind fun v => some (v, S)) Q = _
  rw [wo_bind]; simp only [wo_some]
theorem wo_ixL {k : Nat} {i : Int} : Wo (dIx (.ref k) (.int i) S) Q = ∃ xs, lstOf S k = some xs ∧ ∃ v, L2.atI xs i = some v ∧ Q v S := by
  show Wo ((lstOf S k).bind fun xs => (L2.atI xs i).bind fun v => some (v, S)) Q = _
  rw [wo_bind]; simp only [wo_bind, wo_some]
theorem wo_lenT {xs : List D} : Wo (fLen [.tup xs] S) Q = Q (.int xs.length) S := wo_some
theorem wo_lenL {k : Nat} : Wo (fLen [.ref k] S) Q = ∃ xs, lstOf S k = some xs ∧ Q (.int xs.length) S := by
  show Wo ((lstOf S k).bind fun xs => some (.int xs.length, S)) Q = _
  rw [wo_bind]; simp only [wo_some]
theorem wo_abs {i : Int} : Wo (fAbs [.int i] S) Q = Q (.int (if i < 0 then -i else i)) S := wo_some
theorem wo_intB {k : Bool} : Wo (fInt [.bl k] S) Q = Q (.int (if k then 1 else 0)) S := wo_some
theorem wo_tup {xs : List D} : Wo (fTup xs S) Q = (xs.length ≤ sizeLine ∧ Q (.tup xs) S) := wo_ite
theorem wo_lst {xs : List D} : Wo (fLst xs S) Q = (xs.length ≤ sizeLine ∧ Q (.ref S.length) (S ++ [.lst xs])) := wo_ite
theorem wo_tupleL {k : Nat} : Wo (fTuple [.ref k] S) Q = ∃ xs, lstOf S k = some xs ∧ Q (.tup xs) S := by
  show Wo ((lstOf S k).bind fun xs => some (.tup xs, S)) Q = _
  rw [wo_bind]; simp only [wo_some]
theorem wo_eqI {i j : Int} : Wo (dEq (.int i) (.int j) S) Q = Q (.bl (decide (i = j))) S := wo_some
theorem wo_eqB {i j : Bool} : Wo (dEq (.bl i) (.bl j) S) Q = Q (.bl (decide (i = j))) S := wo_some
theorem wo_neS {i j : Str} : Wo (dNe (.str i) (.str j) S) Q = Q (.bl (!decide (i = j))) S := wo_some
theorem wo_is {x : D} : Wo (dIs x .non S) Q = Q (.bl (isNon x)) S := by
  cases x <;> exact wo_some
theorem wo_isnot {x : D} : Wo (dIsNot x .non S) Q = Q (.bl (!isNon x)) S := by
  cases x <;> exact wo_some
theorem wo_append {k : Nat} {x : D} : Wo (mAppend (.ref k) [x] S) Q = ∃ xs, S[k]? = some (.lst xs) ∧ xs.length < sizeLine ∧ Q .non (S.set k (.lst (xs ++ [x]))) := by
  show Wo (match S[k]? with | some (.lst xs) => if xs.length < sizeLine then some (.non, S.set k (.lst (xs ++ [x]))) else none | _ => none) Q = _
  cases e : S[k]? with
  | none => simp [Wo]
  | some o =>
    cases o with
    | lst xs => simp [wo_ite]
    | flst xs => simp [Wo]
    | iset f n => simp [Wo]
    | dct kvs => simp [Wo]
    | fdct kvs => simp [Wo]
    | ftdct kvs => simp [Wo]
    | tset ks => simp [Wo]
    | fnc x => simp [Wo]
    | tdct kvs => simp [Wo]
    | exc c => simp [Wo]
theorem wo_run {k : Nat} {b : SM} {ds : List D} : Wo (runB k b ds S) Q = Ws b (ds.map some ++ List.replicate (k - ds.length) none) S fun f _ S1 => match f with | .rt d => Q d S1 | .nx => Q .non S1 | _ => False := by
  apply propext
  constructor
  · rintro ⟨v, S', h, q⟩
    obtain ⟨⟨f, l1, S1⟩, h1, h⟩ := bnd h
    refine ⟨f, l1, S1, h1, ?_⟩
    cases f with
    | rt d => cases h; exact q
    | nx => cases h; exact q
    | bk => cases h
    | ct => cases h
  · rintro ⟨f, l1, S1, h1, q⟩
    cases f with
    | rt d => exact ⟨_, _, by unfold runB; rw [h1]; rfl, q⟩
    | nx => exact ⟨_, _, by unfold runB; rw [h1]; rfl, q⟩
    | bk => cases q
    | ct => cases q
end
theorem Wo.mono {o : Option (D × Sto)} {Q Q' : D → Sto → Prop} (h : Wo o Q) (i : ∀ v S, Q v S → Q' v S) : Wo o Q' := let ⟨v, S, e, q⟩ := h; ⟨v, S, e, i v S q⟩
theorem Wr.mono {o : Option (Fl × Lo × Sto)} {Q Q' : Fl → Lo → Sto → Prop} (h : Wr o Q) (i : ∀ f v S, Q f v S → Q' f v S) : Wr o Q' := let ⟨f, v, S, e, q⟩ := h; ⟨f, v, S, e, i f v S q⟩
section
variable {g : GM} {b : SM} {l : Lo} {S : Sto} {QS : Fl → Lo → Sto → Prop}
theorem forX_inv (P : Nat → Lo → Sto → Prop) : ∀ (xs : List D) (k : Nat) (l : Lo) (S : Sto), P k l S →
    (∀ (i : Nat) x l S, xs[i]? = some x → P (k + i) l S → Wg (g x l S) fun l1 S1 => Ws b l1 S1 fun f l2 S2 => (f = .nx ∨ f = .ct) ∧ P (k + i + 1) l2 S2) →
    Wr (forX g b xs l S) fun f l' S' => f = .nx ∧ P (k + xs.length) l' S'
  | [], k, l, S, h0, _ => ⟨_, _, _, rfl, rfl, h0⟩
  | x :: xs, k, l, S, h0, hs => by
    obtain ⟨l1, S1, e1, f, l2, S2, e2, hf, h1⟩ := hs 0 x l S rfl h0
    have ih := forX_inv P xs (k + 1) l2 S2 h1 fun i y l S hy hp => by
      have := hs (i + 1) y l S (by simpa using hy) (by rw [show k + (i + 1) = k + 1 + i by omega]; exact hp)
      rw [show k + (i + 1) + 1 = k + 1 + i + 1 by omega] at this
      exact this
    obtain ⟨f', l', S', e3, q1, q2⟩ := ih
    refine ⟨f', l', S', ?_, q1, by rw [List.length_cons, show k + (xs.length + 1) = k + 1 + xs.length by omega]; exact q2⟩
    unfold forX
    rw [e1]; show (b l1 S1).bind _ = _; rw [e2]
    rcases hf with rfl | rfl <;> exact e3
theorem ws_forR {as : AM} : Ws (sForR (rng1 as) g b) l S QS = Wa as l S fun xs S1 => ∃ j, xs = [.int j] ∧ (-(2 ^ 62) ≤ j ∧ j < 2 ^ 62) ∧ Wr (forX g b (rngD 0 j.toNat) l S1) QS := by
  apply propext
  constructor
  · rintro ⟨f, v, S', h, q⟩
    obtain ⟨⟨⟨lo, n⟩, S1⟩, h1, h⟩ := bnd h
    obtain ⟨⟨xs, S2⟩, h2, h1⟩ := bnd h1
    dsimp only at h1
    split at h1
    · rename_i j
      obtain ⟨hz, e⟩ := ite_some h1
      cases e
      exact ⟨_, _, h2, j, rfl, hz, f, v, S', h, q⟩
    · cases h1
  · rintro ⟨xs, S1, h1, j, rfl, hz, f, v, S', h, q⟩
    refine ⟨f, v, S', ?_, q⟩
    have : rng1 as l S = some ((0, j.toNat), S1) := by
      unfold rng1; rw [h1]; show (if _ then _ else _) = _; rw [if_pos hz]
    unfold sForR; show (rng1 as l S).bind _ = _; rw [this]; exact h
theorem ws_forT {e : EM} : Ws (sFor e g b) l S QS = We e l S fun x S1 => Wr (match x with | .tup xs => forX g b xs l S1 | .ref n => (lstOf S1 n).bind fun xs => forL g b n (xs.length + 1) 0 l S1 | _ => none) QS := by
  apply propext
  constructor
  · rintro ⟨f, v, S', h, q⟩
    obtain ⟨⟨x, S1⟩, h1, h⟩ := bnd h
    exact ⟨x, S1, h1, f, v, S', h, q⟩
  · rintro ⟨x, S1, h1, f, v, S', h, q⟩
    exact ⟨f, v, S', by unfold sFor; rw [h1]; exact h, q⟩
theorem rngD_get {lo : Int} {n i : Nat} {x : D} (h : (rngD lo n)[i]? = some x) : i < n ∧ x = .int (lo + i) := by
  have hl := (List.getElem?_eq_some_iff.mp h).1
  simp only [rngD, List.length_map, List.length_range] at hl
  unfold rngD at h
  rw [List.getElem?_map, List.getElem?_range hl] at h
  exact ⟨hl, (Option.some.inj h).symm⟩
theorem rngD_len (lo : Int) (n : Nat) : (rngD lo n).length = n := by simp [rngD]
end
end L3
set_option Elab.async false
set_option maxHeartbeats 4000000
namespace L3
open PySem PySem.Spec PyProof.Rows L2
mutual
def pyOf (S : Sto) : Nat → D → Option PyData
  | 0, _ => none
  | _ + 1, .non => some .none
  | _ + 1, .bl b => some (.bool b)
  | _ + 1, .int i => if i.natAbs.log2 < 1920 then some (.int i) else none
  | _ + 1, .str x => some (.str x)
  | k + 1, .tup xs => (pyAll S k xs).bind fun ds => some (.tuple ds)
  | k + 1, .ref n => (lstOf S n).bind fun xs => (pyAll S k xs).bind fun ds => some (.list ds)
  | _ + 1, .fn _ => none
termination_by k => (k, 0)
def pyAll (S : Sto) : Nat → List D → Option (List PyData)
  | _, [] => some []
  | k, x :: xs => (pyOf S k x).bind fun d => (pyAll S k xs).bind fun ds => some (d :: ds)
termination_by k xs => (k, xs.length + 1)
end
def fRepr : FM
  | [x], S => (pyOf S 140 x).bind fun d => if d.shown.length ≤ sizeLine then some (.str d.shown, S) else none
  | _, _ => none
section
variable {X : Cx} {pins : List (Addr × Obj)} {σ : St} {H : Hp} {s : Shared} {ρ : List Addr} {S : Sto}
mutual
theorem reads_of (I : Inv X pins σ H s) (sim : Sim X.K ρ S H) : ∀ (k : Nat) (d : D) (v : V) (u : Value) (p : PyData), RD ρ H d v → RelV v u → pyOf S k d = some p → (∃ as, Reads s.heap u p as) ∧ p.showable = true ∧ p.hasDict = false ∧ p.depth ≤ k
  | 0, d, v, u, p, _, _, h => by unfold pyOf at h; cases h
  | k + 1, .non, v, u, p, r, e, h => by
    unfold pyOf at h; cases h; cases r; cases e
    exact ⟨⟨_, .none⟩, rfl, rfl, Nat.zero_le _⟩
  | k + 1, .bl b, v, u, p, r, e, h => by
    unfold pyOf at h; cases h; cases r; cases e
    exact ⟨⟨_, .bool b⟩, rfl, rfl, Nat.zero_le _⟩
  | k + 1, .int i, v, u, p, r, e, h => by
    unfold pyOf at h
    obtain ⟨hz, e2⟩ := ite_some h
    cases e2; cases r
    obtain ⟨t, rfl⟩ := e
    exact ⟨⟨_, .int i t⟩, by unfold PyData.showable; exact decide_eq_true hz, rfl, Nat.zero_le _⟩
  | k + 1, .str x, v, u, p, r, e, h => by
    unfold pyOf at h; cases h; cases r
    obtain ⟨t, rfl⟩ := e
    exact ⟨⟨_, .str x t⟩, rfl, rfl, Nat.zero_le _⟩
  | k + 1, .fn _, v, u, p, r, e, h => by unfold pyOf at h; cases h
  | k + 1, .tup xs, v, u, p, r, e, h => by
    unfold pyOf at h
    obtain ⟨ds, h1, h⟩ := bnd h
    cases h
    cases r with
    | tup ha r =>
      cases e
      obtain ⟨its, rv, ⟨o, ho, hc, n, hd⟩, hz⟩ := I.tuple (SqT.of ha)
      obtain ⟨⟨as, h2⟩, h3, h4, h5⟩ := readsAll_of I sim k xs _ _ ds r rv h1
      refine ⟨⟨as, .tuple ho hc hd (by simpa using h2)⟩, ?_, ?_, ?_⟩
      · unfold PyData.showable; exact h3
      · unfold PyData.hasDict; exact h4
      · unfold PyData.depth; omega
  | k + 1, .ref n, v, u, p, r, e, h => by
    unfold pyOf at h
    obtain ⟨xs, h0, h⟩ := bnd h
    obtain ⟨ds, h1, h⟩ := bnd h
    cases h
    obtain ⟨a, vs, ha, sq, rd⟩ := sim.lstOf h0
    cases r with
    | ref hn =>
      rw [ha] at hn; cases hn
      cases e
      obtain ⟨its, rv, pl, hz⟩ := I.list sq
      obtain ⟨o, ho, hc, m, hd⟩ := pl.isList
      obtain ⟨⟨as, h2⟩, h3, h4, h5⟩ := readsAll_of I sim k xs _ _ ds rd rv h1
      refine ⟨⟨_, .list ho hc hd (by simpa using h2)⟩, ?_, ?_, ?_⟩
      · unfold PyData.showable; exact h3
      · unfold PyData.hasDict; exact h4
      · unfold PyData.depth; omega
termination_by k => (k, 0)
theorem readsAll_of (I : Inv X pins σ H s) (sim : Sim X.K ρ S H) : ∀ (k : Nat) (xs : List D) (vs : List V) (us : List Value) (ds : List PyData), RDs ρ H xs vs → Vals vs us → pyAll S k xs = some ds → (∃ as, ReadsAll s.heap us ds as) ∧ PyData.showableAll ds = true ∧ PyData.hasDictAll ds = false ∧ PyData.depthAll ds ≤ k
  | k, [], vs, us, ds, r, e, h => by
    unfold pyAll at h; cases h; cases r; cases e
    exact ⟨⟨_, .nil⟩, rfl, rfl, Nat.zero_le _⟩
  | k, x :: xs, vs, us, ds, r, e, h => by
    unfold pyAll at h
    obtain ⟨d, h1, h⟩ := bnd h
    obtain ⟨ds', h2, h⟩ := bnd h
    cases h
    cases r with
    | cons r1 r2 =>
      cases e with
      | cons e1 e2 =>
        obtain ⟨⟨as, q1⟩, q2, q3, q4⟩ := reads_of I sim k x _ _ d r1 e1 h1
        obtain ⟨⟨bs, p1⟩, p2, p3, p4⟩ := readsAll_of I sim k xs _ _ ds' r2 e2 h2
        refine ⟨⟨_, .cons q1 p1⟩, ?_, ?_, ?_⟩
        · unfold PyData.showableAll; rw [q2, p2]; rfl
        · unfold PyData.hasDictAll; rw [q3, p3]; rfl
        · unfold PyData.depthAll; omega
termination_by k xs => (k, xs.length + 1)
end
end
end L3
set_option Elab.async false
set_option maxHeartbeats 4000000
namespace L3
open PySem PySem.Spec PyProof.Rows L2
section
variable {X : Cx} {a : Expr} {es : List Expr} {mA : AM} {pos p : Pos}
theorem call_repr3 {k : Nat} (hr : Room k X.A) : CallR X (.builtin "repr") (fun xs H Q => ∃ v ρ S d pd, xs = [v] ∧ Sim X.K ρ S H ∧ RD ρ H d v ∧ pyOf S 140 d = some pd ∧ pd.shown.length ≤ sizeLine ∧ Q (.str pd.shown) H) := by
  intro pins s σ H xs us Q I r h
  obtain ⟨v, ρ, S, d, pd, rfl, sim, rd, hp, hz, q⟩ := h
  obtain ⟨u, rfl, ru⟩ := vals1 r
  have key := reads_of I sim 140 d v u pd rd ru hp
  have byRef : ∀ a, u = .ref a → wpAny (model X.prog X.w) X.A (call (.builtin "repr") [u]) (EP X pins σ Q) X.xe s := fun b hb => by
    subst hb
    obtain ⟨⟨as, h1⟩, h2, h3, h4⟩ := key
    have hu : X.A.units + (pd.depth + 1) < cLine := by have := hr.un; omega
    refine repr_of_reads' h1 h2 (fun z => by rw [h3] at z; cases z) hr.gd hu (fun _ _ e => e) (fun h' u tk hk => ?_) hz
    exact ⟨.str pd.shown, H, I.kept hk, ⟨u, rfl⟩, q⟩
  have hp' := hp
  cases rd with
  | non => cases ru; unfold pyOf at hp'; cases hp'; exact P.repr_of_none ⟨.str _, H, I.tok _, ⟨_, rfl⟩, q⟩
  | bl b => cases ru; unfold pyOf at hp'; cases hp'; exact P.repr_of_bool ⟨.str _, H, I.tok _, ⟨_, by cases b <;> rfl⟩, q⟩
  | int i =>
    obtain ⟨t, rfl⟩ := ru
    unfold pyOf at hp'
    obtain ⟨hi, e⟩ := ite_some hp'
    cases e
    exact P.repr_of_int hi ⟨.str _, H, I.tok _, ⟨_, rfl⟩, q⟩
  | str x => obtain ⟨t, rfl⟩ := ru; unfold pyOf at hp'; cases hp'; exact P.repr_of_str ⟨.str _, H, I.tok _, ⟨_, rfl⟩, q⟩ hz
  | tup ha r => exact byRef _ ru
  | ref hn => exact byRef _ ru
  | fn b => unfold pyOf at hp'; cases hp'
theorem fn3_repr {K : PySem.W.Frag} : Fn3 K fRepr (fun xs H Q => ∃ v ρ S d pd, xs = [v] ∧ Sim K ρ S H ∧ RD ρ H d v ∧ pyOf S 140 d = some pd ∧ pd.shown.length ≤ sizeLine ∧ Q (.str pd.shown) H) := by
  intro ρ S H xs vs v S' Q sim r h p
  unfold fRepr at h
  split at h
  · obtain ⟨pd, h1, h⟩ := bnd h
    obtain ⟨hz, e⟩ := ite_some h
    cases e
    obtain ⟨w, rfl, rw'⟩ := r.one
    exact ⟨w, ρ, _, _, pd, rfl, sim, rw', h1, hz, p ρ H _ (Ext.refl ..) sim (.str _)⟩
  · cases h
theorem boot_repr' : bootBuiltins "repr" = some (.builtin "repr") := by decide +kernel
theorem p3_repr {k : Nat} (hr : Room k X.A) (hg : Gl X "repr") (hm : X.mg "repr" = none) (ha : PA3 X (a :: es) mA) (he : starEach (a :: es) X.env = (false, eval a X.env) :: starEach es X.env := by rfl) (hpl : (backTo pos (starEach es X.env)).any (·.1) = false := by rfl) : PE3 X (.Call (.Name "repr" p) (a :: es) [] pos) (eCall fRepr mA) :=
  p3_callB (call_repr3 hr) fn3_repr hg hm boot_repr' ha (by decide) (by decide) he hpl
end
theorem wo_repr {x : D} {S : Sto} {Q : D → Sto → Prop} : Wo (fRepr [x] S) Q = ∃ pd, pyOf S 140 x = some pd ∧ pd.shown.length ≤ sizeLine ∧ Q (.str pd.shown) S := by
  show Wo ((pyOf S 140 x).bind fun d => if d.shown.length ≤ sizeLine then some (.str d.shown, S) else none) Q = _
  rw [wo_bind]
  simp only [wo_ite]
end L3
set_option Elab.async false
set_option maxHeartbeats 4000000
set_option maxRecDepth 100000
namespace L3
open PySem PySem.Spec PyProof.Rows L2
theorem noFill_tuple_mul : fillsNumberSlot (.type "tuple") "mul" = pure false :=
  PySem.fillsNumberSlot_seq (id := "tuple.__mul__") (r := some (.builtin "tuple.__rmul__")) PySem.F.slot_tuple_mul.lookup (by decide +kernel) PySem.F.slot_tuple_rmul.lookup (by decide +kernel)
theorem repeat_tuple : seqRepeat? (.type "tuple") = pure (some (.builtin "tuple.__mul__")) := by
  unfold seqRepeat?
  rw [PySem.seqSlot_of (T := "tuple") (name := "__mul__") (id := "tuple.__mul__") PySem.F.slot_tuple_mul.lookup (by decide +kernel), PySem.seqSlot_of (T := "tuple") (name := "__rmul__") (id := "tuple.__rmul__") PySem.F.slot_tuple_rmul.lookup (by decide +kernel)]
  rfl
open PySem.AutoSeq1 (wpAny_loadPart')
theorem rmul_int_tuple (a : Int) (t : Tok) (l : Addr) (items : Array Value) (n : Nat) (dd : Option Addr) (sl : Array (Option Value)) :
    Meets (Builtin.«int.__rmul__» ⟨[.int a t, .ref l], []⟩) (fun _ R s => s.heap.get? l = some { cls := .type "tuple", dict := dd, data := .seq items n, slots := sl } ∧ R (.ok (.ret Value.notImplemented)) s) :=
  .of_wp fun prog w A R s h => by obtain ⟨hp, g, d, tk, os⟩ := s; obtain ⟨hl, h⟩ := h; wp_walk; exact ⟨_, rfl, h⟩
section
variable {prog : Program} {w : World} {A : Around} {E : Value → Shared → Prop} {s : Shared}
theorem mul_tup {t : Addr} {items : Array Value} {k : Int} {u : Tok} {Q : Value → Shared → Prop} (ht : IsTup s.heap t items) (k0 : 2 ≤ k) (k1 : k < 2 ^ 31) (hi : items.isEmpty = false) (hz : items.size * k.toNat ≤ sizeLine)
    (h : Q (.ref s.heap.objs.size) { s with heap := s.heap.push { cls := .type "tuple", data := .seq ((List.replicate k.toNat items).foldl (· ++ ·) #[]) } }) (h6 : ((List.replicate k.toNat items).foldl (· ++ ·) #[]).size ≤ sizeLine) :
    wpAny (model prog w) A (call (.builtin "tuple.__mul__") [.ref t, .int k u]) Q E s := by
  refine wpAny_call_entry PySem.F.slot_tuple_mul ht.typeIs PySem.F.entry_tuple_mul ?_ (PySem.F.args_tuple_mul_2 _ _)
  show wpAny _ _ (asIndex (.int k u) >>= _) _ _ s
  refine wpAny_bind ?_
  show wpAny _ _ (pure k) _ _ s
  refine wpAny_pure ?_
  have e1 : (decide (k < -(2 ^ 63)) || decide (k ≥ 2 ^ 63)) = false := by
    rw [Bool.or_eq_false_iff]; exact ⟨decide_eq_false (by omega), decide_eq_false (by omega)⟩
  have e2 : (items.isEmpty || k == 1) = false := by rw [hi, Bool.false_or]; exact beq_false_of_ne (by omega)
  have e3 : (decide (k ≤ 0) || items.isEmpty) = false := by rw [hi, Bool.or_false]; exact decide_eq_false (by omega)
  show wpAny _ _ (if (decide (k < -(2 ^ 63)) || decide (k ≥ 2 ^ 63)) = true then _ else _) _ _ s
  rw [if_neg (by rw [e1]; exact Bool.false_ne_true)]
  refine wpAny_bind (tupleItemsOf_ ht ?_)
  show wpAny _ _ (if (items.isEmpty || k == 1) = true then _ else _) _ _ s
  rw [if_neg (by rw [e2]; exact Bool.false_ne_true)]
  show wpAny _ _ (if (decide (k ≤ 0) || items.isEmpty) = true then _ else _) _ _ s
  rw [if_neg (by rw [e3]; exact Bool.false_ne_true)]
  have hk : (items.size : Int) * k = ((items.size * k.toNat : Nat) : Int) := by rw [Int.natCast_mul, Int.toNat_of_nonneg (by omega)]
  have hs : (sizeLine : Nat) = 16777216 := by decide
  show wpAny _ _ (if (items.size : Int) * k > (2 ^ 63 - 1) / 8 then _ else _) _ _ s
  rw [if_neg (by rw [hk]; omega)]
  show wpAny _ _ (if Builtin.Tuple.tupleTooMany ((items.size : Int) * k) = true then _ else _) _ _ s
  rw [if_neg (by unfold Builtin.Tuple.tupleTooMany; rw [hk]; simp only [decide_eq_true_eq]; omega)]
  first
    | exact wpAny_bind (m := Builtin.Tuple.tupleExact _) (wpAny_newObj_type (wpAny_pure ⟨_, rfl, h⟩) h6)
    | exact wpAny_bind (m := Builtin.Tuple.tupleExact _) (wpAny_newObj_type (wpAny_pure ⟨_, rfl, wpAny_pure h⟩) h6)
theorem mul_tup1 {t : Addr} {items : Array Value} {u : Tok} {Q : Value → Shared → Prop} (ht : IsTup s.heap t items) (h : Q (.ref t) s) :
    wpAny (model prog w) A (call (.builtin "tuple.__mul__") [.ref t, .int 1 u]) Q E s := by
  refine wpAny_call_entry PySem.F.slot_tuple_mul ht.typeIs PySem.F.entry_tuple_mul ?_ (PySem.F.args_tuple_mul_2 _ _)
  show wpAny _ _ (asIndex (.int 1 u) >>= _) _ _ s
  refine wpAny_bind ?_
  show wpAny _ _ (pure (1 : Int)) _ _ s
  refine wpAny_pure ?_
  show wpAny _ _ (if (decide ((1 : Int) < -(2 ^ 63)) || decide ((1 : Int) ≥ 2 ^ 63)) = true then _ else _) _ _ s
  rw [if_neg (by decide)]
  refine wpAny_bind (tupleItemsOf_ ht ?_)
  show wpAny _ _ (if (items.isEmpty || (1 : Int) == 1) = true then _ else _) _ _ s
  rw [if_pos (by simp)]
  unfold Builtin.Tuple.tupleIsExact
  refine wpAny_bind (wpAny_bind (wpAny_typeOf ht.typeIs (wpAny_pure ?_)))
  rw [if_pos (by decide)]
  exact wpAny_bind (wpAny_rule (wpAny_pure ⟨_, rfl, h⟩))
theorem mul_tup0 {t : Addr} {items : Array Value} {k : Int} {u : Tok} {Q : Value → Shared → Prop} (ht : IsTup s.heap t items) (k0 : k = 0) (hi : items.isEmpty = false)
    (h : Q (.ref s.heap.objs.size) { s with heap := s.heap.push { cls := .type "tuple", data := .seq #[] } }) :
    wpAny (model prog w) A (call (.builtin "tuple.__mul__") [.ref t, .int k u]) Q E s := by
  subst k0
  refine wpAny_call_entry PySem.F.slot_tuple_mul ht.typeIs PySem.F.entry_tuple_mul ?_ (PySem.F.args_tuple_mul_2 _ _)
  show wpAny _ _ (asIndex (.int 0 u) >>= _) _ _ s
  refine wpAny_bind ?_
  show wpAny _ _ (pure (0 : Int)) _ _ s
  refine wpAny_pure ?_
  show wpAny _ _ (if (decide ((0 : Int) < -(2 ^ 63)) || decide ((0 : Int) ≥ 2 ^ 63)) = true then _ else _) _ _ s
  rw [if_neg (by decide)]
  refine wpAny_bind (tupleItemsOf_ ht ?_)
  show wpAny _ _ (if (items.isEmpty || (0 : Int) == 1) = true then _ else _) _ _ s
  rw [if_neg (by rw [hi]; decide)]
  show wpAny _ _ (if (decide ((0 : Int) ≤ 0) || items.isEmpty) = true then _ else _) _ _ s
  rw [if_pos (by simp)]
  first
    | exact wpAny_bind (m := Builtin.Tuple.tupleExact _) (wpAny_newObj_type (wpAny_pure ⟨_, rfl, h⟩) (Nat.zero_le _))
    | exact wpAny_bind (m := Builtin.Tuple.tupleExact _) (wpAny_newObj_type (wpAny_pure ⟨_, rfl, h⟩) (by decide))
end
def rRepT3 (K : PySem.W.Frag) : R2 := fun x y H Q => ∃ a k xs, x = .ref a ∧ y = .int k ∧ SqT K H a xs ∧ xs ≠ [] ∧ 0 ≤ k ∧ k < 2 ^ 31 ∧ xs.length * k.toNat ≤ sizeLine ∧
  (k = 1 → Q (.ref a) H) ∧ (k ≠ 1 → ∀ p, H p = none → Q (.ref p) (upd H p (.tup (List.replicate k.toNat xs).flatten)))
theorem op_repT3 {X : Cx} : OpR X (binaryOp .Mult) (rRepT3 X.K) := by
  intro pins s σ H x y v u Q I rx ry h
  obtain ⟨a, k, xs, rfl, rfl, hx, hne, k0, k1, hz, q1, q2⟩ := h
  cases rx
  obtain ⟨t, rfl⟩ := ry
  obtain ⟨its, r, pt, _⟩ := I.tuple hx
  have hne' : its ≠ [] := fun z => hne (r.nil_iff.mp z)
  have hie : its.toArray.isEmpty = false := by cases its with
    | nil => exact absurd rfl hne'
    | cons _ _ => simp
  obtain ⟨⟨cls, dd, data, sl⟩, ho, hc, n, hd⟩ := id pt
  simp only at hc hd
  subst hc hd
  refine wpAny_binaryOp_repeat_ref (T := "tuple") (U := "int") (by decide) ⟨_, ho, rfl⟩ (fun s' => typeIs_int s' k t) noFill_tuple_mul PySem.F.fills_int_mul PySem.F.slot_int_rmul repeat_tuple PySem.F.slot_int_index.lookup
    (call_meets PySem.F.slot_int_rmul (typeIs_int s k t) PySem.F.entry_int_rmul (PySem.F.args_int_rmul_2 _ _) (rmul_int_tuple k t a its.toArray n dd sl) ⟨ho, rfl, ⟨_, ho, rfl⟩, ?_⟩)
  have f0 : ∀ m : Nat, List.foldl (fun x1 x2 => x1 ++ x2) #[] (List.replicate m its.toArray) = (List.replicate m its).flatten.toArray := fun m => by
    have := foldl_rep its m []
    rw [List.nil_append] at this
    exact this
  have hl : xs.length = its.length := r.length
  by_cases e1 : k = 1
  · subst e1
    exact mul_tup1 pt ⟨.ref a, H, I, rfl, q1 rfl⟩
  · by_cases e0 : k = 0
    · refine mul_tup0 pt e0 hie ?_
      have hv : Vals ([] : List V) ([] : List Value) := .nil
      refine ⟨.ref s.heap.objs.size, _, I.laid (t' := s.toks) (o := .tup []) (fun b ob q => Heap.get?_push_of_some _ q) (Nat.le_refl _) ?_, rfl, ?_⟩
      · exact ⟨Nat.zero_le _, [], .nil, IsTup.new _ _⟩
      · have := q2 e1 _ (I.hok.fresh (Nat.le_refl _))
        subst e0
        exact this
    · have hlen : (List.replicate k.toNat its).flatten.length = k.toNat * its.length := len_rep its k.toNat
      refine mul_tup pt (by omega) k1 hie (by rw [List.size_toArray, ← hl]; exact hz) ?_ ?_
      · rw [f0]
        refine ⟨.ref s.heap.objs.size, _, I.laid (t' := s.toks) (o := .tup (List.replicate k.toNat xs).flatten) (fun b ob q => Heap.get?_push_of_some _ q) (Nat.le_refl _) ?_, rfl, q2 e1 _ (I.hok.fresh (Nat.le_refl _))⟩
        exact ⟨by rw [len_rep, Nat.mul_comm]; exact hz, _, r.rep k.toNat, IsTup.new _ _⟩
      · rw [f0, List.size_toArray, hlen, Nat.mul_comm, ← hl]; exact hz
def dTimes : D → D → Sto → Option (D × Sto)
  | .int i, .int j, S => if (-(2 ^ 64) < i ∧ i < 2 ^ 64) ∨ (-(2 ^ 64) < j ∧ j < 2 ^ 64) then some (.int (i * j), S) else none
  | .tup (x :: xs), .int k, S => if 0 ≤ k ∧ k < 2 ^ 31 ∧ (xs.length + 1) * k.toNat ≤ sizeLine then some (.tup (List.replicate k.toNat (x :: xs)).flatten, S) else none
  | _, _, _ => none
theorem op3_times {K : PySem.W.Frag} : Op3 K dTimes (fun x y H Q => rI CMul (fun i j => .int (i * j)) x y H Q ∨ rRepT3 K x y H Q) := by
  intro ρ S H x y x' y' v S' Q sim rx ry h p
  unfold dTimes at h
  split at h
  · obtain ⟨hc, e⟩ := ite_some h
    cases e; cases rx; cases ry
    exact .inl ⟨_, _, rfl, rfl, hc, p ρ H _ (Ext.refl ..) sim (.int _)⟩
  · rename_i x xs k
    obtain ⟨⟨k0, k1, hz⟩, e⟩ := ite_some h
    cases e; cases ry
    cases rx with
    | @tup _ a vs ha r =>
      have hl := r.length
      refine .inr ⟨a, k, vs, rfl, rfl, SqT.of ha, ?_, k0, k1, by rw [← hl]; exact hz, fun e => ?_, fun _ => new_tup sim (r.rep k.toNat) p⟩
      · intro z; rw [z] at hl; cases hl
      · subst e
        have e2 : (List.replicate (1 : Int).toNat (x :: xs)).flatten = x :: xs := by simp
        rw [e2] at p
        exact p ρ H _ (Ext.refl ..) sim (.tup ha r)
  · cases h
section
variable {X : Cx} {a b : Expr} {ma mb : EM} {pos : Pos}
theorem p3_times (ha : PE3 X a ma) (hb : PE3 X b mb) : PE3 X (.BinOp a .Mult b pos) (eOp dTimes ma mb) := p3_op (op_mul.or op_repT3) op3_times ha hb
end
end L3
set_option Elab.async false
set_option maxHeartbeats 4000000
namespace L3
open PySem PySem.Spec PyProof.Rows L2
def whl (c : TM) (b : SM) : Nat → SM
  | 0, _, _ => none
  | k + 1, l, S => (c l S).bind fun p => if p.1 = true then (b l p.2).bind fun q => match q.1 with
    | .nx => whl c b k q.2.1 q.2.2
    | .ct => whl c b k q.2.1 q.2.2
    | .bk => some (.nx, q.2)
    | .rt d => some (.rt d, q.2) else some (.nx, l, p.2)
section
variable {X : Cx} {c : Expr} {body : List Stmt} {mc : TM} {mb : SM} {pos : Pos}
theorem s3_while (n : Nat) (hp : PassesOwn (model X.prog X.w) X.A X.env X.xe) (hc : PT3 X c mc) (hb : PSs3 X body mb) : PS3 X (.While c body [] pos) (whl mc mb n) :=
  PS.imp (ps_while hp hc hb) fun E σ H ⟨ρ, l, S, f, l', S', sim, ro, hm, p⟩ => by
    refine ⟨fun m σ1 H1 => ∃ ρ1 l1 S1, Ext ρ H ρ1 H1 ∧ Sim X.K ρ1 S1 H1 ∧ RO ρ1 H1 l1 σ1 ∧ whl mc mb m l1 S1 = some (f, l', S'), ⟨n, ρ, l, S, Ext.refl .., sim, ro, hm⟩, ?_⟩
    rintro m σ1 H1 ⟨ρ1, l1, S1, e1, s1, ro1, hm1⟩
    cases m with
    | zero => cases hm1
    | succ m =>
      unfold whl at hm1
      obtain ⟨⟨k, S2⟩, q1, hm1⟩ := bnd hm1
      refine ⟨ρ1, l1, S1, k, S2, s1, ro1, q1, fun ρ2 H2 e2 s2 => ?_⟩
      cases k with
      | false =>
        cases hm1
        exact iteF (p ρ2 H2 σ1 (e1.trans e2) s2 (ro1.mono e2))
      | true =>
        have hm1 : ((mb l1 S2).bind fun q => match q.1 with
          | .nx => whl mc mb m q.2.1 q.2.2
          | .ct => whl mc mb m q.2.1 q.2.2
          | .bk => some (.nx, q.2)
          | .rt d => some (.rt d, q.2)) = some (f, l', S') := hm1
        obtain ⟨⟨fl, l3, S3⟩, q2, hm1⟩ := bnd hm1
        refine iteT ⟨_, fun σ' H' h => h, ρ2, l1, S2, fl, l3, S3, s2, ro1.mono e2, q2, fun ρ3 H3 σ3 e3 s3 ro3 => ?_⟩
        cases fl with
        | nx => exact ⟨m, Nat.lt_succ_self m, ρ3, l3, S3, e1.trans (e2.trans e3), s3, ro3, hm1⟩
        | ct => exact ⟨m, Nat.lt_succ_self m, ρ3, l3, S3, e1.trans (e2.trans e3), s3, ro3, hm1⟩
        | bk => cases hm1; exact p ρ3 H3 σ3 (e1.trans (e2.trans e3)) s3 ro3
        | rt d => cases hm1; exact p ρ3 H3 σ3 (e1.trans (e2.trans e3)) s3 ro3
theorem s3_aug (j : Nat) {x : Str} {e : Expr} {me : EM} {pos' : Pos} (hN : X.N.Nodup) (he : PE3 X e me) (hi : X.N[j]? = some x := by rfl) (hx : Loc X.env.scope x := by first | exact Or.inl rfl | exact Or.inr rfl) (hf : X.fn x = true ∨ X.env.scope.names.lookup x = some .local := by first | exact .inl rfl | exact .inr rfl | assumption) :
    PS3 X (.AugAssign (.Name x pos') .Add e pos) (sAsg (eOp dAdd (eVar j) me) (gName3 j)) := PS.imp (ps_aug hN hi hx he ip_add hf) fun E σ H ⟨ρ, l, S, f, l', S', sim, ro, hm, p⟩ => by
  obtain ⟨⟨y, S1⟩, q1, hm⟩ := bnd hm
  obtain ⟨⟨x1, S2⟩, q2, q1⟩ := bnd q1
  obtain ⟨⟨x2, S3⟩, q3, q1⟩ := bnd q1
  cases hm
  unfold eVar at q2
  split at q2
  · rename_i d ed
    cases q2
    obtain ⟨w, h1, h2⟩ := ro.get j _ ed
    refine ⟨w, h1, ρ, l, _, x2, S3, sim, ro, q3, fun ρ1 H1 x' e1 s1 r1 => ?_⟩
    dsimp only at q1
    unfold dAdd oI0 at q1
    split at q1
    · cases q1
      cases h2; cases r1
      exact ⟨_, _, rfl, rfl, p ρ1 H1 _ e1 s1 ((ro.mono e1).set j (.int _))⟩
    · cases q1
  · cases q2
end
section
variable {X : Cx}
variable {a b : Expr} {ma mb : EM} {pos : Pos}
end
section
variable {X : Cx}
variable {a b : Expr} {ma mb : EM} {pos : Pos} {k : Nat}
end
end L3
set_option Elab.async false
set_option maxHeartbeats 4000000
namespace L3
open PySem PySem.Spec PyProof.Rows L2
def flatD : D → Bool
  | .non => true | .bl _ => true | .int _ => true | .str _ => true
  | _ => false
def eqFl : D → D → Bool
  | .non, .non => true
  | .bl a, .bl b => a == b
  | .bl a, .int b => (if a then 1 else 0) == b
  | .int a, .bl b => a == (if b then 1 else 0)
  | .int a, .int b => a == b
  | .str a, .str b => a == b
  | _, _ => false
def seqOf (S : Sto) : D → Option (List D)
  | .tup xs => some xs
  | .ref n => lstOf S n
  | _ => none
def dInS (neg : Bool) : D → D → Sto → Option (D × Sto) := fun x y S => (seqOf S y).bind fun xs => if flatD x = true ∧ xs.all flatD = true then some (.bl (if neg then !(xs.any fun y => eqFl y x) else xs.any fun y => eqFl y x), S) else none
theorem flat_ok {ρ : List Addr} {H : Hp} {x : D} {x' : V} (r : RD ρ H x x') : flatV x' = flatD x := by
  cases r <;> rfl
theorem eqFl_ok {ρ : List Addr} {H : Hp} {x y : D} {x' y' : V} (r : RD ρ H x x') (r' : RD ρ H y y') : eqV x' y' = eqFl x y := by
  cases r <;> cases r' <;> rfl
theorem flats_ok {ρ : List Addr} {H : Hp} : ∀ {xs : List D} {vs : List V}, RDs ρ H xs vs → vs.all flatV = xs.all flatD
  | _, _, .nil => rfl
  | _, _, .cons r q => by rw [List.all_cons, List.all_cons, flat_ok r, flats_ok q]
theorem any_ok {ρ : List Addr} {H : Hp} {x : D} {x' : V} (rx : RD ρ H x x') : ∀ {xs : List D} {vs : List V}, RDs ρ H xs vs → inV x' vs = xs.any fun y => eqFl y x
  | _, _, .nil => rfl
  | _, _, .cons r q => by
    have ih := any_ok rx q
    unfold inV at ih ⊢
    rw [List.any_cons, List.any_cons, eqFl_ok r rx, ih]
theorem op3_in {K : PySem.W.Frag} {neg : Bool} : Op3 K (dInS neg) (rIn K neg) := by
  intro ρ S H x y x' y' v S' Q sim rx ry h p
  obtain ⟨xs, h1, h⟩ := bnd h
  obtain ⟨hc, e⟩ := ite_some h
  cases e
  have fin : ∀ a vs, y' = .ref a → (SqL K H a vs ∨ SqT K H a vs) → RDs ρ H xs vs → rIn K neg x' y' H Q := fun a vs e1 e2 r => by
    refine ⟨a, vs, e1, e2, by rw [flat_ok rx]; exact hc.1, by rw [flats_ok r]; exact hc.2, ?_⟩
    rw [any_ok rx r]
    exact p ρ H _ (Ext.refl ..) sim (.bl _)
  cases ry with
  | tup ha r => cases h1; exact fin _ _ rfl (.inr (SqT.of ha)) r
  | ref hn =>
    obtain ⟨a, vs, ha, sq, r⟩ := sim.lstOf h1
    rw [ha] at hn; cases hn
    exact fin _ _ rfl (.inl sq) r
  | _ => cases h1
def setOf : Sto → D → Option ((Int → Bool) × Nat)
  | S, .ref n => match S[n]? with
    | some (.iset f k) => some (f, k)
    | _ => none
  | _, _ => none
theorem Sim.isetOf {K : PySem.W.Frag} {ρ : List Addr} {S : Sto} {H : Hp} {x : D} {v : V} {f : Int → Bool} {k : Nat} (s : Sim K ρ S H) (r : RD ρ H x v) (h : setOf S x = some (f, k)) : ∃ n a, x = .ref n ∧ v = .ref a ∧ ρ[n]? = some a ∧ S[n]? = some (.iset f k) ∧ H a = some (.set f k) := by
  unfold setOf at h
  split at h
  · rename_i n
    split at h
    · rename_i f' k' e
      cases h
      cases r with
      | @ref _ a hn => exact ⟨n, a, rfl, rfl, hn, e, s.at' n a _ hn e⟩
    · cases h
  · cases h
def dInI (neg : Bool) : D → D → Sto → Option (D × Sto)
  | .int i, y, S => (setOf S y).bind fun p => some (.bl (if neg then !p.1 i else p.1 i), S)
  | _, _, _ => none
def rInI (neg : Bool) : R2 := fun x y H Q => ∃ i a f n, x = .int i ∧ y = .ref a ∧ H a = some (.set f n) ∧ Q (.bl (if neg then !f i else f i)) H
section
variable {X : Cx}
theorem op_inI : OpR X (compareOp .In) (rInI false) := by
  intro pins s σ H x y v u Q I rx ry h
  obtain ⟨i, a, f, n, rfl, rfl, hH, q⟩ := h
  obtain ⟨t, rfl⟩ := rx
  cases ry
  exact PySem.wpAny_inSet_of (knd := intKind X.prog X.w) (k := i) (PySem.intKind_is X.prog X.w i t) rfl (I.hok a _ hH) ⟨.bl _, H, I.tok _, rfl, q⟩
theorem op_notInI : OpR X (compareOp .NotIn) (rInI true) := by
  intro pins s σ H x y v u Q I rx ry h
  obtain ⟨i, a, f, n, rfl, rfl, hH, q⟩ := h
  obtain ⟨t, rfl⟩ := rx
  cases ry
  exact PySem.wpAny_notInSet_of (knd := intKind X.prog X.w) (k := i) (PySem.intKind_is X.prog X.w i t) rfl (I.hok a _ hH) ⟨.bl _, H, I.tok _, rfl, q⟩
theorem op3_inI {K : PySem.W.Frag} {neg : Bool} : Op3 K (dInI neg) (rInI neg) := by
  intro ρ S H x y x' y' v S' Q sim rx ry h p
  unfold dInI at h
  split at h
  · obtain ⟨⟨f, k⟩, h1, h⟩ := bnd h
    cases h
    cases rx
    obtain ⟨n, a, rfl, rfl, _, _, hH⟩ := sim.isetOf ry h1
    exact ⟨_, a, f, k, rfl, rfl, hH, p ρ H _ (Ext.refl ..) sim (.bl _)⟩
  · cases h
def dIn (neg : Bool) : D → D → Sto → Option (D × Sto) := fun x y S => match dInI neg x y S with | some v => some v | none => dInS neg x y S
variable {a b : Expr} {ma mb : EM} {pos : Pos}
theorem t3_in (ha : PE3 X a ma) (hb : PE3 X b mb) (hm : behindInMarks .In b = false := by rfl) : PT3 X (.Compare a [.In] [b] pos) (tE (eOp (dIn false) ma mb)) := t3_cmp (op_inI.or op_in_seq) (op3_inI.or op3_in) ha hb hm
theorem t3_notin (ha : PE3 X a ma) (hb : PE3 X b mb) (hm : behindInMarks .NotIn b = false := by rfl) : PT3 X (.Compare a [.NotIn] [b] pos) (tE (eOp (dIn true) ma mb)) := t3_cmp (op_notInI.or op_notIn_seq) (op3_inI.or op3_in) ha hb hm
end
section
variable {X : Cx}
variable {o e : Expr} {mo m : EM} {apos cpos : Pos}
end
section
variable {prog : Program} {w : World} {A : Around} {E : Value → Shared → Prop} {s : Shared}
theorem wpAny_inMain {env : Env} {q : Str} {Q : Bool → Shared → Prop} (h : s.heap.CodeRec env.code q) (hq : ∀ b, Q b s) : wpAny (model prog w) A (inMainModule env) Q E s := by
  obtain ⟨c, o, vs, t, e1, ho, hd, _⟩ := h
  unfold inMainModule
  rw [e1]
  show wpAny _ _ (fieldsOf (.ref c) >>= _) _ _ s
  refine wpAny_bind ?_
  show wpAny _ _ (load c >>= _) _ _ s
  refine wpAny_bind (wpAny_load ho ?_)
  rw [hd]
  refine wpAny_pure ?_
  split
  · exact wpAny_bind (wpAny_askSetting (wpAny_pure (hq _)))
  · exact wpAny_pure (hq _)
end
section
variable {X : Cx}
end
def FUEL : Nat := 1000000
end L3
set_option Elab.async false
set_option maxHeartbeats 4000000
namespace L3
open PySem PySem.Spec PyProof.Rows L2
section
variable {X : Cx} {o e : Expr} {mo m : EM} {apos cpos : Pos}
end
section
variable {X : Cx} {o e : Expr} {mo m : EM} {apos cpos : Pos}
end
section
variable {X : Cx}
variable {a a2 : Expr} {mA : AM} {p p0 pos pos' : Pos}
end
end L3
set_option Elab.async false
set_option maxHeartbeats 4000000
namespace L3
open PySem PySem.Spec PyProof.Rows L2
def isT : D → Bool
  | .bl b => b
  | _ => false
def isBlD : D → Bool
  | .bl _ => true
  | _ => false
def vT : V → Bool
  | .bl b => b
  | _ => false
def isBlV : V → Bool
  | .bl _ => true
  | _ => false
def fAny : FM
  | [.ref n], S => (lstOf S n).bind fun xs => if xs.all isBlD = true then some (.bl (xs.any isT), S) else none
  | _, _ => none
theorem vt_ok {ρ : List Addr} {H : Hp} {x : D} {x' : V} (r : RD ρ H x x') : vT x' = isT x ∧ isBlV x' = isBlD x := by
  cases r <;> exact ⟨rfl, rfl⟩
theorem vts_ok {ρ : List Addr} {H : Hp} : ∀ {xs : List D} {vs : List V}, RDs ρ H xs vs → vs.all vT = xs.all isT ∧ vs.any vT = xs.any isT ∧ vs.all isBlV = xs.all isBlD
  | _, _, .nil => ⟨rfl, rfl, rfl⟩
  | _, _, .cons r q => by
    obtain ⟨h1, h2⟩ := vt_ok r
    obtain ⟨h3, h4, h5⟩ := vts_ok q
    simp only [List.all_cons, List.any_cons, h1, h2, h3, h4, h5, and_self]
section
variable {X : Cx}
theorem all_get {ys : List V} (tr : Nat → Bool) (h : ∀ (i : Nat) y, ys[i]? = some y → tr i = vT y) : (List.range ys.length).all tr = ys.all vT ∧ (List.range ys.length).any tr = ys.any vT := by
  have e : (List.range ys.length).map tr = ys.map vT := by
    apply List.ext_getElem?
    intro i
    rw [List.getElem?_map, List.getElem?_map]
    by_cases hi : i < ys.length
    · rw [List.getElem?_range hi, List.getElem?_eq_getElem hi]
      simp [h i _ (List.getElem?_eq_getElem hi)]
    · rw [List.getElem?_eq_none_iff.mpr (by simpa using hi), List.getElem?_eq_none_iff.mpr (by simpa using hi)]; rfl
  have a1 : (List.range ys.length).all tr = ((List.range ys.length).map tr).all id := by rw [List.all_map]; rfl
  have a2 : ys.all vT = (ys.map vT).all id := by rw [List.all_map]; rfl
  have a3 : (List.range ys.length).any tr = ((List.range ys.length).map tr).any id := by rw [List.any_map]; rfl
  have a4 : ys.any vT = (ys.map vT).any id := by rw [List.any_map]; rfl
  exact ⟨by rw [a1, a2, e], by rw [a3, a4, e]⟩
def rAll (K : PySem.W.Frag) (f : List V → Bool) : List V → Hp → VK → Prop := fun xs H Q => ∃ p ys, xs = [.ref p] ∧ SqL K H p ys ∧ ys.all isBlV = true ∧ Q (.bl (f ys)) H
theorem all_walk {pins : List (Addr × Obj)} {s : Shared} {σ : St} {H : Hp} {p : Addr} {ys : List V} {E : Value → Shared → Prop} {R : Bool → Bool → Shared → Prop} (hc : X.calm = true) (I : Inv X pins σ H s) (hq : SqL X.K H p ys) (hb : ys.all isBlV = true)
    (h : ∀ s', Inv X pins σ H s' → R (ys.all vT) (ys.any vT) s') :
    wpAny (model X.prog X.w) X.A.in1 (pyIter (.ref p)) (fun it s₂ => ∃ I fp wr n P St tr, it = .ref I ∧ Walks X.prog X.w X.A.in1 I fp wr n P St ∧ St 0 s₂.heap ∧ TruthOf X.prog X.w X.A.in1 P tr ∧
      ∀ h' tk, (∀ b o, b ∉ wr → s₂.heap.get? b = some o → h'.get? b = some o) → R ((List.range n).all tr) ((List.range n).any tr) { s₂ with heap := h', toks := tk }) E s := by
  obtain ⟨its, rv, pl, hz⟩ := I.list hq
  refine wpAny_pyIter_list pl.isList ?_
  have hne : p ≠ s.heap.objs.size := by
    obtain ⟨o, ho, _⟩ := pl.isList
    exact Nat.ne_of_lt (Heap.lt_size ho)
  have I1 : Inv X pins σ H { s with heap := s.heap.push { cls := .type "list_iterator", data := .fields #[.ref p, rawInt 0] } } := I.kept (t' := s.toks) fun b o e => Heap.get?_push_of_some _ e
  have fp := I.fpOk (Nat.le_refl s.heap.objs.size) I.fresh
  refine ⟨_, _, _, its.toArray.size, _, _, fun i => match its[i]? with | some (.bool b) => b | _ => false, rfl, Walks.list (A := X.A.in1) (I.ok.hd hc) s.heap.objs.size p hne its.toArray, ?_, ?_, ?_⟩
  · obtain ⟨o, ho, hc', n, hd⟩ := pl.isList
    exact ⟨⟨_, Heap.get?_push_size _ rfl, rfl, rfl⟩, ⟨o, Heap.get?_push_of_some _ ho, hc', n, hd⟩⟩
  · intro i v s' Q E' hP hQ
    have e1 : its[i]? = some v := by simpa using hP
    have hl := rv.length
    have hi : i < ys.length := by rw [hl]; exact (List.getElem?_eq_some_iff.mp e1).1
    obtain ⟨u, hu, ru⟩ := rv.get (List.getElem?_eq_getElem hi)
    rw [e1] at hu; cases hu
    have hb2 := List.all_eq_true.mp hb _ (List.getElem_mem hi)
    dsimp only at hQ
    rw [e1] at hQ
    revert ru hb2
    generalize ys[i] = y
    intro ru hb2
    cases y with
    | bl b => cases ru; exact wpAny_truthy_bool hQ
    | _ => exact absurd (show false = true from hb2) Bool.false_ne_true
  · intro h' tk k
    have hs : its.toArray.size = ys.length := by rw [List.size_toArray, rv.length]
    obtain ⟨a1, a2⟩ := all_get (ys := ys) (fun i => match its[i]? with | some (.bool b) => b | _ => false) (fun i y hy => by
      obtain ⟨u, hu, ru⟩ := rv.get hy
      have hb2 := List.all_eq_true.mp hb _ (List.mem_of_getElem? hy)
      rw [hu]
      cases y with
      | bl b => cases ru; rfl
      | _ => exact absurd (show false = true from hb2) Bool.false_ne_true)
    rw [hs, a1, a2]
    exact h _ (I1.turned (t' := tk) (fun b o hb' e => k b o (by simpa using hb') e) fp.1 fp.2.1 fp.2.2.2.1 fp.2.2.2.2.1 fp.2.2.2.2.2)
theorem call_any3 (hc : X.calm = true) : CallR X (.builtin "any") (rAll X.K fun ys => ys.any vT) := by
  intro pins s σ H xs us Q I r h
  obtain ⟨p, ys, rfl, hq, hb, q⟩ := h
  obtain ⟨u1, rfl, r1⟩ := r.one
  cases r1
  exact PySem.call_any_walk (all_walk (R := fun _ a s' => EP X pins σ Q (.bool a) s') hc I hq hb fun s' I' => ⟨.bl _, H, I', rfl, q⟩)
theorem fn3_any {K : PySem.W.Frag} : Fn3 K fAny (rAll K fun ys => ys.any vT) := by
  intro ρ S H xs vs v S' Q sim r h p
  unfold fAny at h
  split at h
  · obtain ⟨ys, h1, h⟩ := bnd h
    obtain ⟨hb, e⟩ := ite_some h
    cases e
    obtain ⟨w, rfl, rw'⟩ := r.one
    obtain ⟨a, us, ha, sq, r2⟩ := sim.lstOf h1
    obtain ⟨t1, t2, t3⟩ := vts_ok r2
    cases rw' with
    | ref hn =>
      rw [ha] at hn; cases hn
      exact ⟨_, us, rfl, sq, by rw [t3]; exact hb, by dsimp only; rw [t2]; exact p ρ H _ (Ext.refl ..) sim (.bl _)⟩
  · cases h
theorem boot_any3 : bootBuiltins "any" = some (.builtin "any") := by decide +kernel
variable {a : Expr} {es : List Expr} {mA : AM} {p pos : Pos}
theorem p3_any (hc : X.calm = true) (hg : Gl X "any") (hm : X.mg "any" = none) (ha : PA3 X (a :: es) mA) (he : starEach (a :: es) X.env = (false, eval a X.env) :: starEach es X.env := by rfl) (hpl : (backTo pos (starEach es X.env)).any (·.1) = false := by rfl) : PE3 X (.Call (.Name "any" p) (a :: es) [] pos) (eCall fAny mA) :=
  p3_callB (call_any3 hc) fn3_any hg hm boot_any3 ha (by decide) (by decide) he hpl
end
end L3
set_option Elab.async false
set_option maxHeartbeats 4000000
namespace L3
open PySem PySem.Spec PyProof.Rows L2
section
variable {X : Cx} {pos : Pos}
end
def dNeNil : D → D → Sto → Option (D × Sto)
  | .ref n, .ref m, S => match S[n]?, S[m]? with
    | some (.lst xs), some (.lst []) => some (.bl (!xs.isEmpty), S)
    | _, _ => none
  | _, _, _ => none
def rNeNil : R2 := fun x y H Q => ∃ a b xs, x = .ref a ∧ y = .ref b ∧ H a = some (.lst xs) ∧ H b = some (.lst []) ∧ Q (.bl (!xs.isEmpty)) H
section
variable {X : Cx} {a b : Expr} {ma mb : EM} {pos : Pos} {k : Nat}
theorem op_neNil (hr : Room k X.A) : OpR X (compareOp .NotEq) rNeNil := by
  intro pins s σ H x y v u Q I rx ry h
  obtain ⟨a, b, xs, rfl, rfl, ha, hb, q⟩ := h
  cases rx; cases ry
  obtain ⟨z, its, n, r, hl, e⟩ := I.lstM ha
  obtain ⟨z2, its2, n2, r2, hl2, e2⟩ := I.lstM hb
  cases r2
  have hu : X.A.units < cLine := by have := hr.un; omega
  have l1 : s.heap.IsList a its.toArray := ⟨_, e, rfl, n, rfl⟩
  have l2 : s.heap.IsList b ([] : List Value).toArray := ⟨_, e2, rfl, n2, rfl⟩
  cases xs with
  | nil =>
    cases r
    have := SeqAt.RcNeAt.lists (A := X.A) (e := fun _ => true) l1 l2 rfl hu (fun j h1 _ => by simp at h1)
    exact this X.prog X.w X.xe _ ⟨.bl _, H, I, rfl, q⟩
  | cons y ys =>
    cases r with
    | cons r1 r2 =>
      exact SeqAt.RcNeAt.lists_lengths (A := X.A) l1 l2 (by simp) hu X.prog X.w X.xe _ ⟨.bl _, H, I, rfl, q⟩
theorem op3_neNil {K : PySem.W.Frag} : Op3 K dNeNil rNeNil := by
  intro ρ S H x y x' y' v S' Q sim rx ry h p
  unfold dNeNil at h
  split at h
  · split at h
    · rename_i n m S xs e1 e2
      cases h
      obtain ⟨a, us, ha, hH, r2⟩ := sim.lst e1
      obtain ⟨b, ws, hb, hH2, r3⟩ := sim.lst e2
      cases r3
      cases rx with
      | ref hn =>
        rw [ha] at hn; cases hn
        cases ry with
        | ref hm =>
          rw [hb] at hm; cases hm
          refine ⟨a, b, us, rfl, rfl, hH, hH2, ?_⟩
          have : us.isEmpty = xs.isEmpty := by cases r2 <;> rfl
          rw [this]
          exact p ρ H _ (Ext.refl ..) sim (.bl _)
    · cases h
  · cases h
theorem t3_neNil (hr : Room k X.A) (ha : PE3 X a ma) (hb : PE3 X b mb) : PT3 X (.Compare a [.NotEq] [b] pos) (tE (eOp dNeNil ma mb)) := t3_cmp (op_neNil hr) op3_neNil ha hb (nomark b)
end
section
variable {X : Cx} {pins : List (Addr × Obj)} {σ : St} {H : Hp} {s : Shared} {ρ : List Addr} {S : Sto}
end
section
variable {X : Cx} {a : Expr} {es : List Expr} {mA : AM} {pos p : Pos}
end
end L3
set_option Elab.async false
set_option maxHeartbeats 4000000
set_option maxRecDepth 100000
namespace L3
open PySem PySem.Spec PyProof.Rows L2
section
variable {prog : Program} {w : World} {A : Around} {E : Value → Shared → Prop} {s : Shared}
end
section
variable {P : Program} {w : World} {K : PySem.W.Frag} {elts : List Expr} {z : Nat} {tp : Pos}
end
end L3
set_option Elab.async false
set_option maxHeartbeats 4000000
set_option maxRecDepth 100000
namespace L3
open PySem PySem.Spec PyProof.Rows L2
open AutoSeq1 (wpAny_loadPart')
section
variable {prog : Program} {w : World} {A : Around} {E : Value → Shared → Prop} {s : Shared}
end
section
variable {X : Cx} {elts : List Expr} {z : Nat} {tp : Pos}
end
section
variable {K : PySem.W.Frag}
end
section
variable {X : Cx} {elts : List Expr} {z : Nat} {tp : Pos} {a : Expr} {mA : AM} {g : GM} {b : SM} {body : List Stmt} {p0 pos' pos : Pos}
end
end L3
set_option Elab.async false
set_option maxHeartbeats 4000000
set_option maxRecDepth 100000
namespace L3
open PySem PySem.Spec PyProof.Rows L2
section
variable {prog : Program} {w : World} {A : Around} {E : Value → Shared → Prop} {s : Shared}
end
section
variable {X : Cx} {gs : GsM} {es : List Expr} {k n : Nat} {pos : Pos}
theorem PG.or {tg : Expr} {t u : TG} (h : PG X tg t) (h' : PG X tg u) : PG X tg (fun v σ H Q => t v σ H Q ∨ u v σ H Q) := by
  intro pins s σ H v w Q I r q
  rcases q with q | q
  · exact h pins s σ H v w Q I r q
  · exact h' pins s σ H v w Q I r q
end
section
variable {X : Cx} {a : Expr} {ma : EM} {lo hi : Option Expr} {ml mh : OM} {p2 pos : Pos}
end
end L3
set_option Elab.async false
set_option maxHeartbeats 4000000
set_option maxRecDepth 100000
namespace L3
open PySem PySem.Spec PyProof.Rows L2
section
variable {X : Cx} {a b : Expr} {ma mb : EM} {mA : AM} {es : List Expr} {pos p : Pos}
end
def dIxS : D → D → Sto → Option (D × Sto)
  | .str z, .int i, S => if z.length ≤ sizeLine then (atI z.cps.toList i).bind fun c => some (.str ⟨#[c]⟩, S) else none
  | _, _, _ => none
def dIxA : D → D → Sto → Option (D × Sto) := fun x y S => match dIx x y S with | some v => some v | none => dIxS x y S
theorem op3_ixS {K : PySem.W.Frag} : Op3 K dIxS rIxS := by
  intro ρ S H x y x' y' v S' Q sim rx ry h p
  unfold dIxS at h
  split at h
  · cases rx; cases ry
    split at h
    · rename_i hz
      obtain ⟨c, h1, h⟩ := bnd h
      cases h
      exact ⟨_, _, c, rfl, rfl, hz, h1, p ρ H _ (Ext.refl ..) sim (.str _)⟩
    · cases h
  · cases h
theorem op3_ixA {K : PySem.W.Frag} : Op3 K dIxA (rIx K) := by
  intro ρ S H x y x' y' v S' Q sim rx ry hm p
  unfold dIxA at hm
  cases e : dIx x y S with
  | some w => rw [e] at hm; cases hm; exact op3_ix ρ S H x y x' y' _ _ Q sim rx ry e p
  | none => rw [e] at hm; exact .inr (.inr (op3_ixS ρ S H x y x' y' _ _ Q sim rx ry hm p))
def fLenA : FM
  | [.str z], S => if z.length ≤ sizeLine then some (.int z.length, S) else none
  | xs, S => fLen xs S
def fStr : FM
  | [.int i], S => if i.natAbs.log2 < 1920 then some (.str (toString i), S) else none
  | [.str z], S => none
  | _, _ => none
section
variable {X : Cx} {a b : Expr} {ma mb : EM} {mA : AM} {es : List Expr} {pos p : Pos} {K : PySem.W.Frag}
theorem p3_ixA (ha : PE3 X a ma) (hb : PE3 X b mb) (hs : PlainIx b := by intro _ _; rfl) : PE3 X (.Subscript a b pos) (eOp dIxA ma mb) := PE.imp (pe_ix ix_seq ha hb hs) (te_op op3_ixA)
theorem fn3_lenA : Fn3 K fLenA (fun xs H Q => (∃ p ys, xs = [.ref p] ∧ (SqL K H p ys ∨ SqT K H p ys) ∧ Q (.int ys.length) H) ∨ ∃ z, xs = [.str z] ∧ z.length ≤ sizeLine ∧ Q (.int z.length) H) := by
  intro ρ S H xs vs v S' Q sim r h p
  unfold fLenA at h
  split at h
  · obtain ⟨hz, e⟩ := ite_some h
    cases e
    obtain ⟨w, rfl, rw'⟩ := r.one
    cases rw'
    exact .inr ⟨_, rfl, hz, p ρ H _ (Ext.refl ..) sim (.int _)⟩
  · exact .inl (fn3_len ρ S H _ vs v S' Q sim r h p)
theorem p3_lenA (hg : Gl X "len") (hm : X.mg "len" = none) (ha : PA3 X (a :: es) mA) (he : starEach (a :: es) X.env = (false, eval a X.env) :: starEach es X.env := by rfl) (hpl : (backTo pos (starEach es X.env)).any (·.1) = false := by rfl) : PE3 X (.Call (.Name "len" p) (a :: es) [] pos) (eCall fLenA mA) :=
  p3_callB (call_len_seq.or call_len_str) fn3_lenA hg hm PySem.boot_len ha (by decide) (by decide) he hpl
end
end L3
set_option Elab.async false
set_option maxHeartbeats 4000000
set_option maxRecDepth 100000
namespace L3
open PySem PySem.Spec PyProof.Rows L2
def dKey : D → Option Key
  | .int i => some (.inl i)
  | .str x => some (.inr x)
  | _ => none
def kvGet (kvs : List (Key × D)) (k : Key) : Option D := (kvs.find? fun kv => decide (kv.1 = k)).map (·.2)
def kvPut (kvs : List (Key × D)) (k : Key) (v : D) : List (Key × D) := if (kvs.any fun kv => decide (kv.1 = k)) = true then kvs.map (fun kv => if kv.1 = k then (kv.1, v) else kv) else kvs ++ [(k, v)]
def dctOf (S : Sto) (n : Nat) : Option (List (Key × D)) := match S[n]? with
  | some (.dct kvs) => some kvs
  | _ => none
section
variable {K : PySem.W.Frag} {ρ : List Addr} {H : Hp} {S : Sto}
theorem kv_get {k : Key} : ∀ {kvs : List (Key × D)} {vs : List V}, RDs ρ H (kvs.map (·.2)) vs → (kvGet kvs k = none → valV ((kvs.map (·.1)).zip vs) k = none) ∧ ∀ d, kvGet kvs k = some d → ∃ v, valV ((kvs.map (·.1)).zip vs) k = some v ∧ RD ρ H d v
  | [], vs, r => by
    cases r
    exact ⟨fun _ => rfl, fun d h => by cases h⟩
  | (k', d') :: kvs, vs, r => by
    cases r with
    | @cons _ v _ vs r1 r2 =>
      by_cases e : k' = k
      · have e1 : kvGet ((k', d') :: kvs) k = some d' := by simp [kvGet, e]
        have e2 : valV ((((k', d') :: kvs).map (·.1)).zip (v :: vs)) k = some v := valV_pos (p := (k', v)) e
        rw [e1, e2]
        exact ⟨fun z => (by cases z), fun d h => (by cases h; exact ⟨v, rfl, r1⟩)⟩
      · have e1 : kvGet ((k', d') :: kvs) k = kvGet kvs k := by simp [kvGet, e]
        have e2 : valV ((((k', d') :: kvs).map (·.1)).zip (v :: vs)) k = valV ((kvs.map (·.1)).zip vs) k := valV_neg (p := (k', v)) e
        rw [e1, e2]
        exact kv_get r2
theorem kv_any (k : Key) : ∀ {kvs : List (Key × D)} {vs : List V}, RDs ρ H (kvs.map (·.2)) vs → (((kvs.map (·.1)).zip vs).any fun kv => decide (kv.1 = k)) = kvs.any fun kv => decide (kv.1 = k)
  | [], vs, r => by cases r; rfl
  | (k', d') :: kvs, vs, r => by
    cases r with
    | @cons _ v _ vs r1 r2 =>
      show (decide (k' = k) || (((kvs.map (·.1)).zip vs).any fun kv => decide (kv.1 = k))) = (decide (k' = k) || _)
      rw [kv_any k r2]
theorem kv_put {k : Key} {d : D} {v : V} (rv : RD ρ H d v) {kvs : List (Key × D)} {vs : List V} (r : RDs ρ H (kvs.map (·.2)) vs) : ∃ ws, putK ((kvs.map (·.1)).zip vs) k v = ((kvPut kvs k d).map (·.1)).zip ws ∧ RDs ρ H ((kvPut kvs k d).map (·.2)) ws := by
  unfold putK kvPut
  rw [kv_any k r]
  by_cases e : (kvs.any fun kv => decide (kv.1 = k)) = true
  · rw [if_pos e, if_pos e]
    clear e
    induction kvs generalizing vs with
    | nil => cases r; exact ⟨[], rfl, .nil⟩
    | cons p kvs ih =>
      obtain ⟨k', d'⟩ := p
      cases r with
      | @cons _ u _ us r1 r2 =>
        obtain ⟨ws, h1, h2⟩ := ih r2
        by_cases e : k' = k
        · refine ⟨v :: ws, ?_, ?_⟩
          · simp only [List.map_cons, List.zip_cons_cons, if_pos e]; rw [← h1]
          · simp only [List.map_cons, if_pos e]; exact .cons rv h2
        · refine ⟨u :: ws, ?_, ?_⟩
          · simp only [List.map_cons, List.zip_cons_cons, if_neg e]; rw [← h1]
          · simp only [List.map_cons, if_neg e]; exact .cons r1 h2
  · rw [if_neg e, if_neg e]
    refine ⟨vs ++ [v], ?_, ?_⟩
    · rw [List.map_append, List.zip_append (by rw [List.length_map]; have := r.length; rw [List.length_map] at this; exact this)]; rfl
    · rw [List.map_append]; exact r.append (.cons rv .nil)
theorem key_kV {d : D} {v : V} {k : Key} (h : dKey d = some k) (r : RD ρ H d v) : v = kV k := by
  cases r <;> first | (cases h; rfl) | cases h
theorem Sim.dct {n : Nat} {kvs : List (Key × D)} (s : Sim K ρ S H) (h : S[n]? = some (.dct kvs)) : ∃ a vs, ρ[n]? = some a ∧ H a = some (.dK ((kvs.map (·.1)).zip vs)) ∧ RDs ρ H (kvs.map (·.2)) vs := by
  have hl : n < ρ.length := by rw [s.len]; exact (List.getElem?_eq_some_iff.mp h).1
  obtain ⟨vs, e, r⟩ := s.at' n _ _ (List.getElem?_eq_getElem hl) h
  exact ⟨_, vs, List.getElem?_eq_getElem hl, e, r⟩
end
def rDGet : R2 := fun x y H Q => ∃ a v, x = .ref a ∧ DGet H a y (some v) ∧ Q v H
section
variable {X : Cx} {a b e : Expr} {ma mb me : EM} {pos pos' : Pos} {k : Nat}
theorem hu_of3 (hr : Room k X.A) : X.A.units + 1 < cLine := by have := hr.un; omega
theorem op_dIn (hr : Room k X.A) : OpR X (compareOp .In) (fun y x H Q => ∃ a o, x = .ref a ∧ DGet H a y o ∧ Q (.bl o.isSome) H) := by
  intro pins s σ H y x v u Q I ry rx h
  obtain ⟨a, o, rfl, g, q⟩ := h
  cases rx
  exact d_in (hu_of3 hr) I g ry fun s' I' => ⟨.bl _, H, I', rfl, q⟩
theorem op_dNotIn (hr : Room k X.A) : OpR X (compareOp .NotIn) (fun y x H Q => ∃ a o, x = .ref a ∧ DGet H a y o ∧ Q (.bl (!o.isSome)) H) := by
  intro pins s σ H y x v u Q I ry rx h
  obtain ⟨a, o, rfl, g, q⟩ := h
  cases rx
  exact d_notIn (hu_of3 hr) I g ry fun s' I' => ⟨.bl _, H, I', rfl, q⟩
end
def putD : D → D → D → Sto → Option Sto
  | .ref n, y, v, S => (dctOf S n).bind fun kvs => (dKey y).bind fun k => if kvs.length < sizeLine then some (S.set n (.dct (kvPut kvs k v))) else none
  | _, _, _, _ => none
def gDPut (o i : EM) : GM := fun v l S => (o l S).bind fun p => (i l p.2).bind fun q => (putD p.1 q.1 v q.2).bind fun S' => some (l, S')
theorem plain_dK (kvs : List (Key × V)) : Plain (.dK kvs) := ⟨fun _ z => (by cases z), fun _ _ z => (by cases z)⟩
section
variable {X : Cx} {o i value : Expr} {mo mi mv : EM} {pos pos' : Pos} {k : Nat}
end
section
variable {X : Cx} {pos : Pos}
end
section
variable {X : Cx}
def recvS : D → Option Unit
  | .str _ => some ()
  | _ => none
def eMethS (f : D → List D → Sto → Option (D × Sto)) (o : EM) (as : AM) : EM := fun l S => (o l S).bind fun p => (recvS p.1).bind fun _ => (as l p.2).bind fun q => f p.1 q.1 q.2
variable {o e : Expr} {mo m : EM} {apos cpos : Pos}
end
end L3
set_option Elab.async false
set_option maxHeartbeats 4000000
set_option maxRecDepth 100000
namespace L3
open PySem PySem.Spec PyProof.Rows L2
section
variable {P : Program} {w : World} {K : PySem.W.Frag} {elts : List Expr} {z : Nat} {tp : Pos}
end
section
variable {X : Cx} {elts : List Expr} {z : Nat} {tp : Pos}
end
section
variable {X : Cx} {elts : List Expr} {z : Nat} {tp : Pos} {a : Expr} {mA : AM} {g : GM} {b : SM} {body : List Stmt} {p0 pos' pos : Pos}
end
end L3
set_option Elab.async false
set_option maxHeartbeats 4000000
set_option maxRecDepth 100000
namespace L3
open PySem PySem.Spec PyProof.Rows L2
section
variable {X : Cx} {a b : Expr} {ma mb : EM} {pos : Pos} {k : Nat}
end
end L3
set_option Elab.async false
set_option maxHeartbeats 4000000
set_option maxRecDepth 100000
namespace L3
open PySem PySem.Spec PyProof.Rows L2
def eSlA (m : EM) (lo hi : OM) : EM := fun l S => (m l S).bind fun p => (lo l p.2).bind fun q => (hi l q.2).bind fun r => match p.1 with
  | .tup xs => some (.tup (cutD xs q.1 r.1), r.2)
  | .ref n => (lstOf r.2 n).bind fun xs => some (.ref r.2.length, r.2 ++ [.lst (cutD xs q.1 r.1)])
  | .str z => if z.length ≤ sizeLine then some (.str (Txt.slice z q.1 r.1), r.2) else none
  | _ => none
section
variable {X : Cx} {a : Expr} {ma : EM} {lo hi : Option Expr} {ml mh : OM} {p2 pos : Pos}
end
def dPlusS : D → D → Sto → Option (D × Sto)
  | .str i, .str j, S => if i.length + j.length ≤ sizeLine then some (.str (i ++ j), S) else none
  | _, _, _ => none
def dPlusA : D → D → Sto → Option (D × Sto) := fun x y S => match dPlusS x y S with | some v => some v | none => dPlus x y S
theorem op3_plusS {K : PySem.W.Frag} : Op3 K dPlusS (fun x y H Q => ∃ i j, x = .str i ∧ y = .str j ∧ i.length + j.length ≤ sizeLine ∧ Q (.str (i ++ j)) H) := by
  intro ρ S H x y x' y' v S' Q sim rx ry h p
  unfold dPlusS at h
  split at h
  · obtain ⟨hz, e⟩ := ite_some h
    cases e; cases rx; cases ry
    exact ⟨_, _, rfl, rfl, hz, p ρ H _ (Ext.refl ..) sim (.str _)⟩
  · cases h
theorem p3_plusA {X : Cx} {a b : Expr} {ma mb : EM} {pos : Pos} (ha : PE3 X a ma) (hb : PE3 X b mb) : PE3 X (.BinOp a .Add b pos) (eOp dPlusA ma mb) := p3_op (op_add_str.or (op_add.or ((op_catT.or op_catT0).or op_cat))) (op3_plusS.or op3_plus) ha hb
def fIntA : FM
  | [.str z], S => (intText? z).bind fun n => if z.length ≤ 640 then some (.int n, S) else none
  | xs, S => fInt xs S
section
variable {X : Cx} {a : Expr} {es : List Expr} {mA : AM} {pos p : Pos} {K : PySem.W.Frag}
end
section
variable {X : Cx}
variable {o e f : Expr} {mo m m' : EM} {apos cpos : Pos}
end
end L3
set_option Elab.async false
set_option maxHeartbeats 4000000
set_option maxRecDepth 100000
namespace L3
open PySem PySem.Spec PyProof.Rows L2
def intsD : List D → Option (List Int)
  | [] => some []
  | .int i :: r => (intsD r).bind fun ns => some (i :: ns)
  | _ => none
theorem intsD_rd {ρ : List Addr} {H : Hp} : ∀ {xs : List D} {ns : List Int} {vs : List V}, intsD xs = some ns → RDs ρ H xs vs → vs = ns.map V.int
  | [], ts, vs, h, r => by cases h; cases r; rfl
  | x :: xs, ts, vs, h, r => by
    cases r with
    | cons r1 r2 =>
      cases r1 with
      | int z =>
        obtain ⟨ts', h1, h⟩ := bnd (show (intsD xs).bind (fun ts => some (z :: ts)) = some ts from h)
        cases h
        rw [intsD_rd h1 r2]; rfl
      | _ => cases h
section
variable {X : Cx}
variable {a : Expr} {es : List Expr} {mA : AM} {p pos : Pos}
end
def IsRevT (h : Heap) (a t : Addr) (i : Int) : Prop := ∃ o, h.get? a = some o ∧ o.cls = .type "reversed" ∧ o.data = .fields #[.ref t, rawInt i]
section
variable {prog : Program} {w : World} {A : Around} {E : Value → Shared → Prop} {s : Shared}
theorem IsRevT.typeIs {a t : Addr} {i : Int} (x : IsRevT s.heap a t i) : s.TypeIs (.ref a) "reversed" := let ⟨o, ho, hc, _⟩ := x; ⟨o, ho, hc⟩
end
section
variable {P : Program} {w : World} {K : PySem.W.Frag} {tg : Expr}
end
section
variable {X : Cx} {tg : Expr}
end
section
variable {X : Cx} {tgt : Expr} {a : Expr} {mA : AM} {p0 pos' : Pos}
end
end L3
set_option Elab.async false
set_option maxHeartbeats 4000000
set_option maxRecDepth 100000
namespace L3
open PySem PySem.Spec PyProof.Rows L2
section
variable {X : Cx}
variable {a : Expr} {es : List Expr} {mA : AM} {pos p : Pos}
end
section
variable {X : Cx} {a b : Expr} {ma mb : EM} {pos : Pos}
end
end L3
set_option Elab.async false
set_option maxHeartbeats 4000000
set_option maxRecDepth 100000
namespace L3
open PySem PySem.Spec PyProof.Rows L2
section
variable {prog : Program} {w : World} {A : Around} {R : Result → Shared → Prop} {s : Shared}
end
end L3
set_option Elab.async false
set_option maxHeartbeats 4000000
set_option maxRecDepth 100000
namespace L3
open PySem PySem.Spec PyProof.Rows L2
section
variable {K : PySem.W.Frag} {ρ : List Addr} {H : Hp} {S : Sto}
end
theorem zip_len {ρ : List Addr} {H : Hp} {kvs : List (Key × D)} {vs : List V} (r : RDs ρ H (kvs.map (·.2)) vs) : ((kvs.map (·.1)).zip vs).length = kvs.length := by
  rw [List.length_zip, List.length_map]; have := r.length; rw [List.length_map] at this; omega
end L3
set_option Elab.async false
set_option maxHeartbeats 4000000
set_option maxRecDepth 100000
namespace L3
open PySem PySem.Spec PyProof.Rows L2
section
variable {X : Cx} {tg : Expr}
end
section
variable {X : Cx} {tgt iter : Expr} {m : EM}
end
section
variable {X : Cx} {a b : Expr} {ma mb : EM} {pos : Pos} {k : Nat}
end
end L3
set_option Elab.async false
set_option maxHeartbeats 4000000
set_option maxRecDepth 100000
namespace L3
open PySem PySem.Spec PyProof.Rows L2
end L3
set_option Elab.async false
set_option maxHeartbeats 4000000
set_option maxRecDepth 100000
namespace L3
open PySem PySem.Spec PyProof.Rows L2 PySem.W
structure Tr (fs : List Addr) (e T : Addr) (h h' : Heap) : Prop where
  keep : ∀ b o, b ∉ fs → b ≠ e → b ≠ T → h.get? b = some o → h'.get? b = some o
  slot : ∀ b o, b ∈ fs → h.get? b = some o → (∀ vs, o.data ≠ .fields vs) → ∃ sl, h'.get? b = some { o with slots := sl }
section
variable {M : Model} {A : Around} {E : Value → Shared → Prop} {s : Shared} {base : Heap} {env : Env} {outer : List Env} {L e C T : Addr} {Q : Unit → Shared → Prop}
end
end L3
set_option Elab.async false
set_option maxHeartbeats 4000000
set_option maxRecDepth 100000
namespace L3
open PySem PySem.Spec PyProof.Rows L2 PySem.W
theorem ObjOk.there {P : Program} {w : World} {H : Hp} {h : Heap} {a : Addr} {o : HO} (x : ObjOk P w H h a o) : ∃ q, h.get? a = some q := by
  cases o with
  | lst xs => obtain ⟨_, _, _, _, e⟩ := x; exact ⟨_, e⟩
  | tup xs => obtain ⟨_, _, _, ob, e, _⟩ := x; exact ⟨_, e⟩
  | dK kvs => obtain ⟨_, _, _, _, o, _, _, e, _⟩ := x; exact ⟨_, e⟩
  | dT kvs => obtain ⟨_, _, _, _, o, _, _, e, _⟩ := x; exact ⟨_, e⟩
  | set S n => obtain ⟨o, _, _, _, e, _⟩ := x; exact ⟨_, e⟩
  | ins C dx fs => obtain ⟨_, _, _, e, _⟩ := x; exact ⟨_, e⟩
  | own y => obtain ⟨_, e⟩ := x; exact ⟨_, e⟩
  | xd fs => obtain ⟨_, ⟨_, _, _, e, _⟩, _⟩ := x; exact ⟨_, e⟩
  | rng lo hi => obtain ⟨_, _, _, e⟩ := x; exact ⟨_, e⟩
  | frz ob u => obtain ⟨e, _⟩ := x; exact ⟨_, e⟩
  | tbl ps => exact ⟨_, x⟩
  | met f y => exact ⟨_, x⟩
  | ext φ => obtain ⟨_, e, _⟩ := x; exact e
section
variable {P : Program} {w : World} {K : PySem.W.Frag} {mg : Str → Option Value} {base : Heap} {N : List Str} {qual : Str} {scope : Scope} {f : Addr} {cd : Value} {A : Around} {outer : List Env} {s : Shared} {H : Hp} {E : XK}
end
end L3
set_option Elab.async false
set_option maxHeartbeats 4000000
set_option maxRecDepth 100000
namespace L3
open PySem PySem.Spec PyProof.Rows L2 PySem.W
abbrev ZM := Lo → Sto → Option (Str × Sto)
abbrev ZF := List D → Sto → Option (Str × Sto)
def Rz (K : PySem.W.Frag) (E : XK) (CA : Str → Addr) (r : ZM) : L2.St → Hp → Prop := fun σ H => ∃ ρ l S C S', Sim K ρ S H ∧ RO ρ H l σ ∧ r l S = some (C, S') ∧ ∀ ρ' H', Ext ρ H ρ' H' → Sim K ρ' S' H' → E (.ref (CA C)) none H'
def zNone : ZM := fun _ _ => none
section
variable {X : Cx} {E : XK} {CA : Str → Addr} {e : Expr} {es : List Expr} {st : Stmt} {rest : List Stmt} {r q : ZM} {m : EM} {b : SM} {pos : Pos}
theorem Rz.none {K : PySem.W.Frag} {σ : L2.St} {H : Hp} (h : Rz K E CA zNone σ H) : False := by
  obtain ⟨ρ, l, S, C, S', sim, ro, hm, p⟩ := h; cases hm
end
section
variable {X : Cx} {E : XK} {CA : Str → Addr} {a : Expr} {es : List Expr} {mA : AM} {pos p : Pos} {x : Str} {k j n : Nat} {rx : ZF}
end
section
variable {P : Program} {w : World} {K : PySem.W.Frag} {mg : Str → Option Value} {base : Heap} {N : List Str} {qual : Str} {scope : Scope} {f : Addr} {cd : Value} {A : Around} {outer : List Env} {s : Shared} {H : Hp} {E : XK} {CA : Str → Addr}
end
end L3
set_option Elab.async false
set_option maxHeartbeats 4000000
set_option maxRecDepth 100000
namespace L3
open PySem PySem.Spec PyProof.Rows L2 PySem.W
section
variable {M : Model} {A : Around} {E : Value → Shared → Prop} {s : Shared} {base : Heap} {env : Env} {outer l : List Env} {L e C T : Addr} {Q : Unit → Shared → Prop}
end
section
variable {X : Cx} {pins : List (Addr × Obj)} {σ : L2.St} {H : Hp} {s : Shared} {h' : Heap} {a T : Addr} {t' : Nat}
theorem Inv.tr (I : Inv X pins σ H s) (hex : X.ex = []) (tr : Tr (frs X.stack) a T s.heap h') (na : X.s₀.heap.get? a = none) (nT : X.s₀.heap.get? T = none) (ha : H a = none) (hT : H T = none)
    (oL : X.env.locals ≠ a ∧ X.env.locals ≠ T) (oC : ∀ x c, X.env.cells.lookup x = some c → c ≠ a ∧ c ≠ T) (oP : ∀ p ∈ X.pn ++ pins, p.1 ≠ a ∧ p.1 ≠ T) : Inv X pins σ H { s with heap := h', toks := t' } := by
  have kp : ∀ b o, (∀ vs, o.data ≠ .fields vs) → b ≠ a → b ≠ T → s.heap.get? b = some o → ∃ sl, h'.get? b = some { o with slots := sl } := fun b o hn h1 h2 q => by
    by_cases hb : b ∈ frs X.stack
    · exact tr.slot b o hb q hn
    · exact ⟨o.slots, tr.keep b o hb h1 h2 q⟩
  have hne : ∀ b o, X.s₀.heap.get? b = some o → b ≠ a ∧ b ≠ T ∧ b ≠ X.env.locals := fun b o q => ⟨fun z => (by rw [z, na] at q; cases q), fun z => (by rw [z, nT] at q; cases q), Nat.ne_of_lt (Nat.lt_of_lt_of_le (Heap.lt_size q) I.ok.above)⟩
  have nex : ∀ b, b ∉ X.ex := fun b => by rw [hex]; simp
  refine ⟨I.ok, I.os, I.bare, ⟨fun b o q n hb hx => ?_, fun b o q n hb hx => ?_, I.base.free, fun b o q hx => ?_, I.base.tups, I.base.frzs, I.base.tbls⟩, ?_, fun x c e => ?_, I.free, I.freeC, fun p hp => ?_, fun b u e => ?_, I.len⟩
  · obtain ⟨h1, h2, h3⟩ := hne b o q
    exact tr.keep b o (fun z => (List.mem_cons.mp (I.stkSub b z)).elim h3 hb) h1 h2 (I.base.keep b o q n hb hx)
  · obtain ⟨h1, h2, h3⟩ := hne b o q
    obtain ⟨sl, e⟩ := I.base.slot b o q n hb hx
    obtain ⟨_, o2, ho2, hnf⟩ := I.funs.mem hb
    rw [e] at ho2; cases ho2
    obtain ⟨sl', e'⟩ := kp b _ hnf h1 h2 e
    exact ⟨sl', e'⟩
  · obtain ⟨h1, h2, h3⟩ := hne b o q
    obtain ⟨o', e⟩ := I.base.there b o q hx
    by_cases hb : b ∈ frs X.stack
    · obtain ⟨_, o2, ho2, hnf⟩ := I.stack.mem hb
      rw [e] at ho2; cases ho2
      obtain ⟨sl, e'⟩ := tr.slot b _ hb e hnf
      exact ⟨_, e'⟩
    · exact ⟨o', tr.keep b o' hb h1 h2 e⟩
  · obtain ⟨m, ⟨o, es, ep, ho, hd, hr⟩, hl⟩ := I.loc
    obtain ⟨sl, e'⟩ := kp _ o (fun vs z => by rw [hd] at z; cases z) oL.1 oL.2 ho
    refine ⟨m, ⟨_, es, ep, e', hd, hr⟩, fun i x v h1 h2 h3 => ?_⟩
    obtain ⟨u, r, lk⟩ := hl i x v h1 h2 h3
    refine ⟨u, r, ?_⟩
    rcases lk with lk | ⟨k, c, hc, oc, hoc, hdc⟩
    · exact .inl lk
    · obtain ⟨sl2, e2⟩ := kp c oc (fun vs z => by rw [hdc] at z; cases z) (oC x c hc).1 (oC x c hc).2 hoc
      exact .inr ⟨k, c, hc, _, e2, hdc⟩
  · obtain ⟨v, o, ho, hd⟩ := I.cell x c e
    obtain ⟨sl2, e2⟩ := kp c o (fun vs z => by rw [hd] at z; cases z) (oC x c e).1 (oC x c e).2 ho
    exact ⟨v, _, e2, hd⟩
  · obtain ⟨e, n, ne, nf, d⟩ := I.pin p hp
    exact ⟨tr.keep _ _ (fun z => (List.mem_cons.mp (I.stkSub _ z)).elim ne nf) (oP p hp).1 (oP p hp).2 e, n, ne, nf, d⟩
  · refine (I.hok b u e).stay (fun c v hc q => ?_) (fun _ q => q) fun _ _ q => q
    have hcn : H c ≠ none := by
      rcases hc with z | z
      · rw [z, e]; intro y; cases y
      · rw [z]; intro y; cases y
    exact tr.keep c v (fun z => hcn (I.stkFree c z)) (fun z => hcn (by rw [z]; exact ha)) (fun z => hcn (by rw [z]; exact hT)) q
end
section
variable {M : Model} {A : Around} {E : Value → Shared → Prop} {h : Heap} {g : Array GenState} {d : Drawn} {t : Nat} {os : OsState}
variable {nm q nm' q' : Str} {C N D N' : Addr} {bs bm bs' bm' : List Value} {hdct hdct' : Bool} {sn sn' : List Str} {sub sub' : List Value} {ab ab' : Bool} {col col' : Option Bool} {dd dd' : Option Addr} {k0 k1 k2 k3 k5 k0' k1' k2' k3' k5' : Option Value} {newId newId' : String}
end
end L3
set_option Elab.async false
set_option maxHeartbeats 4000000
set_option maxRecDepth 100000
namespace L3
open PySem PySem.Spec PyProof.Rows L2 PySem.W
section
variable {X : Cx} {pins : List (Addr × Obj)} {σ : L2.St} {H : Hp} {s : Shared} {a C T : Addr} {e : Value}
end
end L3
set_option Elab.async false
set_option maxHeartbeats 4000000
set_option maxRecDepth 100000
namespace L3
open PySem PySem.Spec PyProof.Rows L2 PySem.W
section
variable {X : Cx} {pins : List (Addr × Obj)} {σ : L2.St} {tS : TS} {i : Nat} {Dh : Addr} {n hx : Str} {np hpos : Pos} {b0 : Stmt} {suite : List Stmt}
end
end L3
set_option Elab.async false
set_option maxHeartbeats 4000000
set_option maxRecDepth 100000
namespace L3
open PySem PySem.Spec PyProof.Rows L2 PySem.W
section
variable {X : Cx} {E : XK} {CA : Str → Addr} {a : Expr} {es : List Expr} {mA : AM} {cpos p apos py tpos : Pos} {x y : Str} {k j n : Nat} {rx : ZF}
variable {tN tS : TS} {i : Nat} {Dh : Addr} {nm hx : Str} {np hpos : Pos} {b0 : Stmt} {suite : List Stmt}
end
section
variable {X : Cx} {E : XK} {CA : Str → Addr} {a : Expr} {es : List Expr} {mA : AM} {cpos p apos py tpos : Pos} {x y : Str} {k j n : Nat} {rx : ZF} {i : Nat} {Dh : Addr} {nm hx : Str} {np hpos : Pos} {b0 : Stmt} {suite : List Stmt} {mN mS : SM} {ok : Str → Bool}
end
end L3
set_option Elab.async false
set_option maxHeartbeats 4000000
set_option maxRecDepth 100000
namespace L3
open PySem PySem.Spec PyProof.Rows L2 PySem.W PySem.Builtin PySem.Builtin.ObjectAttr PySem.Builtin.Getset_descriptor
section
variable {prog : Program} {w : World} {A : Around} {E : Value → Shared → Prop} {h : Heap} {g : Array GenState} {d : Drawn} {t : Nat} {os : OsState} {a : Addr} {o : Obj} {K : PySem.W.Frag} {C : Addr}
end
section
variable {prog : Program} {w : World} {A : Around} {E : Value → Shared → Prop} {h : Heap} {g : Array GenState} {d : Drawn} {t : Nat} {os : OsState} {a : Addr} {o : Obj} {K : PySem.W.Frag} {C : Addr}
end
end L3
set_option Elab.async false
set_option maxHeartbeats 4000000
set_option maxRecDepth 100000
namespace L3
open PySem PySem.Spec PyProof.Rows L2 PySem.W
section
variable {X : Cx} {es : List Expr} {Cs : List Addr} {y : Str} {C : Addr} {p : Pos}
end
section
variable {X : Cx} {a : Expr} {ma : EM} {pos p tp p2 : Pos} {es : List Expr} {Cs : List Addr} {x1 : Nat} {tab : List (Str × Bool)} {y : Str} {D0 : Addr}
end
end L3
set_option Elab.async false
set_option maxHeartbeats 4000000
set_option maxRecDepth 100000
namespace L3
open PySem PySem.Spec PyProof.Rows L2
def TyOk (X : Cx) (T : String) (ty : V → Hp → Prop) : Prop := ∀ (pins : List (Addr × Obj)) (s : Shared) (σ : St) (H : Hp) (x : V) (v : Value), Inv X pins σ H s → RelV x v → ty x H →
  s.TypeIs v T ∧ ∀ a, v = .ref a → ∃ ob, s.heap.get? a = some ob ∧ ob.dict = none
section
variable {X : Cx} {o e : Expr} {es : List Expr} {to : TE} {t : TA} {name : Str} {apos cpos : Pos} {T id : String} {r : V → List V → Hp → VK → Prop} {ty : V → Hp → Prop}
theorem pe_bmT (tok : TyOk X T ty) (pa : PlainAttrs T) (slot : Slot T name id) (hty : typeOf (.builtin id) = pure (.type "method_descriptor")) (hm : MtM X id r) (ho : PE X o to) (ha : PA X (e :: es) t)
    (hbase : attributeBase o name X.env (eval o X.env) = eval o X.env := by rfl)
    (hfew : ((backTo cpos (starEach (e :: es) X.env)).all (fun x => !x.1) && (backToKw cpos (keywordEach [] X.env)).all (fun x => x.1.isSome)
      && decide ((e :: es).length + ([] : List Keyword).length + (if ([] : List Keyword).isEmpty then 0 else 1) < 30)) = true := by rfl)
    (hline : (apos.endLine == cpos.line) = true := by rfl) (hs : starEach (e :: es) X.env = (false, eval e X.env) :: starEach es X.env := by rfl) (hplain : (backTo cpos (starEach es X.env)).any (·.1) = false := by rfl) :
    PE X (.Call (.Attribute o name apos) (e :: es) [] cpos) (fun σ H Q => to σ H fun x H1 => ty x H1 ∧ t σ H1 fun xs H2 => r x xs H2 Q) := by
  intro pins s σ H Q I h
  refine wpAny_Call_method_late hbase hfew hline rfl (thn (ho pins s σ H _ I h) fun v s1 ⟨x, H1, I1, r1, ty1, q1⟩ => ?_)
  obtain ⟨h1, h2⟩ := tok pins s1 σ H1 x v I1 r1 ty1
  refine ⟨T, id, pa, slot, hty, h1, h2, ?_⟩
  have hA := ha cpos pins s1 σ H1 _ I1 q1
  rw [hs] at hA ⊢
  refine Calls.callWith_builtin (by show (false || (backTo cpos (starEach es X.env)).any (·.1)) = false; rw [hplain] <;> rfl) (Calls.evalArgs_plain ?_)
  exact thn hA fun us s2 ⟨vs, H2, I2, r2, q2⟩ => hm pins s2 σ H2 x vs v us Q I2 r1 r2 q2
end
theorem itemsI {P : Program} {w : World} : ∀ {ks : List Int} {us : List Value}, Vals (ks.map V.int) us → ItemsAre (intKind P w) ks us
  | [], us, h => by cases h; exact .nil
  | k :: ks, us, h => by
    cases h with
    | cons r q => obtain ⟨t, rfl⟩ := r; exact .cons (PySem.intKind_is P w k t) (itemsI q)
theorem keyI_of {P : Program} {w : World} {H : Hp} {h : Heap} {a : Addr} {ks : List Int} (ok : HOk P w H h) (e : H a = some (.tup (ks.map V.int))) : TS.IsK P w h ks a := by
  obtain ⟨_, its, r, o, h1, h2, n, h3⟩ := (show ObjOk P w H h a (.tup (ks.map V.int)) from ok a _ e)
  exact ⟨o, its.toArray, n, h1, h2, h3, by simpa using itemsI r⟩
def tyT (x : V) (H : Hp) : Prop := ∃ a xs, x = .ref a ∧ H a = some (.ext (TS.TSet a xs))
theorem tset_at {X : Cx} {pins : List (Addr × Obj)} {σ : St} {H : Hp} {s : Shared} {a : Addr} {xs : List (List Int × Addr)} (I : Inv X pins σ H s) (h : H a = some (.ext (TS.TSet a xs))) : TS.TSet a xs s.heap := (I.hok a _ h).1
theorem tset_ok {P : Program} {w : World} {H : Hp} {h : Heap} {a : Addr} {xs : List (List Int × Addr)} (hT : TS.TSet a xs h) : ObjOk P w H h a (.ext (TS.TSet a xs)) :=
  ⟨hT, let ⟨o, ho, _⟩ := hT; ⟨o, ho⟩, fun h1 h2 ⟨o, ho, r⟩ k => ⟨o, k o ho, r⟩⟩
theorem tyT_ok {X : Cx} : TyOk X "set" tyT := fun pins s σ H x v I r ⟨a, xs, e, hH⟩ => by
  subst e
  cases r
  exact ⟨(tset_at I hH).typeIs, (tset_at I hH).noDict⟩
theorem plain_ext (φ : Heap → Prop) : Plain (.ext φ) := ⟨fun _ z => (by cases z), fun _ _ z => (by cases z)⟩
def rAddT : V → List V → Hp → VK → Prop := fun x vs H Q => ∃ a b k xs, x = .ref a ∧ vs = [.ref b] ∧ H a = some (.ext (TS.TSet a xs)) ∧ (∀ p ∈ xs, H p.2 = some (.tup (p.1.map V.int))) ∧ H b = some (.tup (k.map V.int)) ∧ xs.length < 1000 ∧
  (k ∈ xs.map (·.1) → Q .non H) ∧ (k ∉ xs.map (·.1) → Q .non (upd H a (.ext (TS.TSet a (xs ++ [(k, b)])))))
section
variable {X : Cx} {j : Nat}
theorem mt_addT (hr : Room j X.A) : MtM X "set.add" rAddT := by
  intro pins s σ H x vs v us Q I rx rv h
  obtain ⟨a, b, k, xs, rfl, rfl, hH, hxs, hb, hz, q1, q2⟩ := h
  cases rx
  obtain ⟨u, rfl, ru⟩ := rv.one
  cases ru
  have hT := tset_at I hH
  have hu : X.A.in1.units < cLine := hu_of3 hr
  refine wpAny_call_entry F.slot_set_add hT.typeIs F.entry_set_add ?_ (F.args_set_add_2 _ _)
  unfold Builtin.«set.add» Builtin.Frozenset.oneOther; simp only [List.isEmpty_nil, bind_assoc]; unfold Builtin.Frozenset.addrOf setAdd
  refine wpAny_bind (wpAny_pure ?_); try dsimp only
  refine wpAny_bind (wpAny_pure ?_); try dsimp only
  refine wpAny_bind (wpAny_holding ?_)
  refine wpAny_bind ((tupleKind (intKind X.prog X.w)).pyHash (k := k) hu (keyI_of I.hok hb) ?_)
  refine TS.setAdd_t (s := { s with toks := s.toks + (k.length + 1) }) hu hT (fun p hp => keyI_of I.hok (hxs p hp)) (keyI_of I.hok hb) hz (fun hin => ?_) fun hni h' sb hT' => ?_
  · exact wpAny_pure ⟨_, rfl, .non, H, I.tok _, rfl, q1 hin⟩
  · obtain ⟨o, ho, hto⟩ := id hT'
    refine wpAny_pure ⟨_, rfl, .non, _, I.write (x := a) (e := a) (o := .ext (TS.TSet a (xs ++ [(k, b)]))) (t' := s.toks + (k.length + 1)) (by rw [hH]; exact trivial) (.inl rfl) (fun b o hb e => sb.extBut b o hb e) ⟨o, ho⟩ (tset_ok hT'), rfl, q2 hni⟩
end
theorem set_same {S : Sto} {n : Nat} {o : Ob} (e : S[n]? = some o) : S.set n o = S := by
  apply List.ext_getElem?
  intro i
  by_cases c : n = i
  · subst c; rw [List.getElem?_set_self (List.getElem?_eq_some_iff.mp e).1, e]
  · rw [List.getElem?_set_ne c]
def mAddT : D → List D → Sto → Option (D × Sto)
  | .ref n, [.tup ds], S => match S[n]? with
    | some (.tset ks) => (intsD ds).bind fun k => if ks.length < 1000 then some (.non, S.set n (.tset (if k ∈ ks then ks else ks ++ [k]))) else none
    | _ => none
  | _, _, _ => none
theorem mt3_addT {K : PySem.W.Frag} : Mt3 K mAddT rAddT := by
  intro ρ S H x x' xs vs v S' Q sim rx r h p
  unfold mAddT at h
  split at h
  · split at h
    · rename_i ks e
      obtain ⟨k, hk, h⟩ := bnd h
      obtain ⟨hz, e2⟩ := ite_some h
      cases e2
      obtain ⟨w, rfl, rw'⟩ := r.one
      cases rx with
      | @ref n a hn =>
        cases rw' with
        | @tup _ b us hb rb =>
          obtain ⟨ys, hy, hH, hys⟩ := sim.at' _ a _ hn e
          have := intsD_rd hk rb
          subst this
          subst hy
          refine ⟨a, b, k, ys, rfl, rfl, hH, hys, hb, by simpa using hz, fun hin => ?_, fun hni => ?_⟩
          · rw [if_pos hin, set_same e] at p
            exact p ρ H _ (Ext.refl ..) sim .non
          · rw [if_neg hni] at p
            refine p ρ _ _ (ext_updG hn hH (plain_ext _)) (sim.setG hn e rfl hH (plain_ext _) ?_) .non
            refine ⟨ys ++ [(k, b)], by simp, upd_same, fun q hq => ?_⟩
            refine (ext0_updG (ρ := ρ) hH (plain_ext _)).tup _ _ ?_
            rcases List.mem_append.mp hq with hq | hq
            · exact hys q hq
            · rw [List.mem_singleton] at hq; subst hq; exact hb
    · cases h
  · cases h
def isTs (S : Sto) : D → Option Unit
  | .ref n => match S[n]? with
    | some (.tset _) => some ()
    | _ => none
  | _ => none
def eMethT (f : D → List D → Sto → Option (D × Sto)) (o : EM) (as : AM) : EM := fun l S => (o l S).bind fun p => (isTs p.2 p.1).bind fun _ => (as l p.2).bind fun q => f p.1 q.1 q.2
section
variable {X : Cx} {j : Nat} {o e : Expr} {mo m : EM} {apos cpos : Pos}
theorem p3_saddT (hr : Room j X.A) (ho : PE3 X o mo) (he : PE3 X e m)
    (hbase : attributeBase o "add" X.env (eval o X.env) = eval o X.env := by rfl)
    (hfew : ((backTo cpos (starEach [e] X.env)).all (fun x => !x.1) && (backToKw cpos (keywordEach [] X.env)).all (fun x => x.1.isSome)
      && decide ([e].length + ([] : List Keyword).length + (if ([] : List Keyword).isEmpty then 0 else 1) < 30)) = true := by rfl)
    (hline : (apos.endLine == cpos.line) = true := by rfl) (hs : starEach [e] X.env = (false, eval e X.env) :: starEach [] X.env := by rfl) :
    PE3 X (.Call (.Attribute o "add" apos) [e] [] cpos) (eMethT mAddT mo (aCons m aNil)) :=
  PE.imp (pe_bmT tyT_ok PySem.F.plainAttrs_set PySem.F.slot_set_add PySem.F.type_set_add (mt_addT hr) ho (a3_cons he a3_nil hs) hbase hfew hline hs rfl) fun σ H Q ⟨ρ, l, S, v, S', sim, ro, hq, p⟩ => by
    obtain ⟨⟨x, S1⟩, h1, hq⟩ := bnd hq
    obtain ⟨_, h2, hq⟩ := bnd hq
    obtain ⟨⟨ys, S2⟩, h4, hq⟩ := bnd hq
    refine ⟨ρ, l, S, x, S1, sim, ro, h1, fun ρ1 H1 x' e1 s1 r1 => ⟨?_, ρ1, l, S1, ys, S2, s1, ro.mono e1, h4, fun ρ2 H2 vs e2 s2 r2 => mt3_addT ρ2 S2 H2 x x' ys vs v S' Q s2 (r1.mono e2) r2 hq (p.ext (e1.trans e2))⟩⟩
    unfold isTs at h2
    dsimp only at h2
    split at h2
    · split at h2
      · rename_i ks e
        cases r1 with
        | @ref n a hn =>
          obtain ⟨ys, _, hH, _⟩ := s1.at' _ a _ hn e
          exact ⟨a, ys, rfl, hH⟩
      · cases h2
    · cases h2
def rInT (neg : Bool) : R2 := fun x y H Q => ∃ b k a xs, x = .ref b ∧ y = .ref a ∧ H b = some (.tup (k.map V.int)) ∧ H a = some (.ext (TS.TSet a xs)) ∧ (∀ p ∈ xs, H p.2 = some (.tup (p.1.map V.int))) ∧ Q (.bl (if neg then !decide (k ∈ xs.map (·.1)) else decide (k ∈ xs.map (·.1)))) H
theorem contains_t {pins : List (Addr × Obj)} {s : Shared} {σ : St} {H : Hp} {a b : Addr} {k : List Int} {xs : List (List Int × Addr)} {E : Value → Shared → Prop} {Q : Bool → Shared → Prop} (hr : Room j X.A) (I : Inv X pins σ H s) (hb : H b = some (.tup (k.map V.int))) (hH : H a = some (.ext (TS.TSet a xs))) (hxs : ∀ p ∈ xs, H p.2 = some (.tup (p.1.map V.int)))
    (q : ∀ t', Q (decide (k ∈ xs.map (·.1))) { s with toks := t' }) : wpAny (model X.prog X.w) X.A (contains (.ref a) (.ref b)) Q E s := by
  have hT := tset_at I hH
  have hu : X.A.in1.units < cLine := hu_of3 hr
  unfold contains
  try with_reducible refine wpAny_holding ?_
  refine wpAny_bind (wpAny_specialOf hT.typeIs F.slot_set_contains.lookup ?_)
  show wpAny _ _ (if (some (Value.builtin "set.__contains__") == some Value.none) = true then _ else _) _ E s
  rw [if_neg (by rw [beq_builtin_none]; exact Bool.false_ne_true)]
  refine wpAny_bind (wpAny_callSpecialUnlessNone?_slot (name := Str.ofString "__contains__") hT.typeIs F.slot_set_contains (wpAny_call_entry F.slot_set_contains hT.typeIs entry_set_contains ?_ (F.args_set_contains_2 _ _)))
  unfold Builtin.«frozenset.__contains__» Builtin.Frozenset.oneOther; simp only [List.isEmpty_nil, bind_assoc]; unfold Builtin.Frozenset.addrOf Builtin.Frozenset.withSetAsKey setContains
  refine wpAny_bind (wpAny_pure ?_); try dsimp only
  refine wpAny_bind (wpAny_pure ?_); try dsimp only
  refine wpAny_bind (wpAny_tryCatch (wpAny_holding ?_))
  refine wpAny_bind ((tupleKind (intKind X.prog X.w)).pyHash (k := k) hu (keyI_of I.hok hb) ?_)
  refine wpAny_bind (TS.setFind_t (s := { s with toks := s.toks + (k.length + 1) }) hu hT (fun p hp => keyI_of I.hok (hxs p hp)) (keyI_of I.hok hb) fun r hr' => ?_)
  refine wpAny_pure ?_
  show wpAny _ _ (ret (Value.bool r.isSome)) _ _ _
  rw [hr']
  exact wpAny_pure ⟨_, rfl, wpAny_truthy_bool (q _)⟩
theorem op_notInT (hr : Room j X.A) : OpR X (compareOp .NotIn) (rInT true) := by
  intro pins s σ H x y v u Q I rx ry h
  obtain ⟨b, k, a, xs, rfl, rfl, hb, hH, hxs, q⟩ := h
  cases rx; cases ry
  show wpAny _ _ (do return Value.bool (!(← contains (Value.ref a) (Value.ref b)))) _ _ s
  exact wpAny_bind (contains_t hr I hb hH hxs fun t' => wpAny_pure ⟨.bl _, H, I.tok _, rfl, q⟩)
def dInT (neg : Bool) : D → D → Sto → Option (D × Sto)
  | .tup ds, .ref n, S => match S[n]? with
    | some (.tset ks) => (intsD ds).bind fun k => some (.bl (if neg then !decide (k ∈ ks) else decide (k ∈ ks)), S)
    | _ => none
  | _, _, _ => none
theorem op3_inT {K : PySem.W.Frag} {neg : Bool} : Op3 K (dInT neg) (rInT neg) := by
  intro ρ S H x y x' y' v S' Q sim rx ry h p
  unfold dInT at h
  split at h
  · split at h
    · rename_i ks e
      obtain ⟨k, hk, h⟩ := bnd h
      cases h
      cases ry with
      | @ref n a hn =>
        cases rx with
        | @tup _ b us hb rb =>
          obtain ⟨ys, hy, hH, hys⟩ := sim.at' _ a _ hn e
          have := intsD_rd hk rb
          subst this
          subst hy
          exact ⟨b, k, a, ys, rfl, rfl, hb, hH, hys, p ρ H _ (Ext.refl ..) sim (.bl _)⟩
    · cases h
  · cases h
variable {a b : Expr} {ma mb : EM} {pos : Pos}
theorem t3_notinT (hr : Room j X.A) (ha : PE3 X a ma) (hb : PE3 X b mb) (hm : behindInMarks .NotIn b = false := by rfl) : PT3 X (.Compare a [.NotIn] [b] pos) (tE (eOp (dInT true) ma mb)) := t3_cmp (op_notInT hr) op3_inT ha hb hm
theorem tset0 (h : Heap) (led : Bool) : TS.TSet h.objs.size [] (h.push { cls := .type "set", dict := none, data := .set #[] 0 (.fresh 0 0 led) }) :=
  ⟨_, Heap.get?_push_size _ rfl, ⟨rfl, rfl, rfl⟩, #[], 0, _, rfl, ⟨rfl, rfl, ⟨3, rfl, by decide⟩, fun i j _ h2 => absurd h2 (Nat.not_lt_zero _), fun j ⟨i, hi⟩ => by simp [SetTable.fresh] at hi, by show 0 * 5 < 7 * 3; decide, by show 7 < 8192; decide, fun i h v hi => by simp at hi⟩, ⟨fun e he => by simp at he, fun p hp => by simp at hp, rfl⟩⟩
theorem pe_setT {q : Str} {t : TE} (hr : Room j X.A) (hcd : PySem.W.codeIn X.K X.env.code q = true) (he : PE X e t) (hroad : displayRoad 0 [e] = .oneByOne := by rfl) (hstar : starEach [e] X.env = [(false, eval e X.env)] := by rfl) :
    PE X (.Set [e] 0 pos) (fun σ H Q => ∀ a, H a = none → t σ (upd H a (.ext (TS.TSet a []))) fun x H1 => ∃ b k, x = .ref b ∧ H1 b = some (.tup (k.map V.int)) ∧ H1 a = some (.ext (TS.TSet a [])) ∧ Q (.ref a) (upd H1 a (.ext (TS.TSet a [(k, b)])))) := by
  intro pins s σ H Q I h
  rw [arm_eval_Set]
  refine wpAny_bind (wpAny_standAt (wpAny_bind (wpAny_inMain (PySem.W.codeRec_of I.kIn hcd) fun bb => ?_)))
  rw [hroad, hstar]
  have hu : X.A.units < cLine := Nat.lt_of_succ_lt (hu_of3 hr)
  unfold setDisplay
  show wpAny _ _ (newSet (.type "set") >>= _) _ _ s
  unfold newSet setsByText
  refine wpAny_bind (wpAny_bind (wpAny_bind (wpAny_askSetting (wpAny_pure ?_))))
  dsimp only
  simp only [newObj]
  refine wpAny_bind (wpAny_alloc (wpAny_pure ?_))
  have hD : H s.heap.objs.size = none := I.hok.fresh (Nat.le_refl _)
  dsimp only
  generalize (!(_ : Bool)) = led
  have hT0 := tset0 s.heap led
  have I1 : Inv X pins σ (upd H s.heap.objs.size (.ext (TS.TSet s.heap.objs.size []))) { s with heap := s.heap.push { cls := .type "set", dict := none, data := .set #[] 0 (.fresh 0 0 led) } } := I.laid (t' := s.toks) (fun b o e => Heap.get?_push_of_some _ e) (Nat.le_refl _) (tset_ok hT0)
  refine wpAny_bind (wpAny_holding ?_)
  show wpAny _ _ (evalAll [_] >>= _) _ _ _
  refine wpAny_bind ?_
  show wpAny _ _ ((do let v ← eval e X.env; standAt pos; pure v) >>= _) _ _ _
  refine wpAny_bind (wpAny_bind (thn (he pins _ σ _ _ I1 (h _ hD)) fun v s2 hq2 => ?_))
  obtain ⟨x, H2, I2, r2, b, k, ex, hb, hH2, q2⟩ := hq2
  subst ex
  cases r2
  refine wpAny_bind (wpAny_standAt (wpAny_pure ?_))
  refine wpAny_bind (wpAny_holding (wpAny_pure (wpAny_pure ?_)))
  refine wpAny_bind (wpAny_holding ?_)
  simp only [List.forIn_cons, List.forIn_nil, bind_assoc, pure_bind]
  refine wpAny_bind ?_
  unfold setAdd
  refine wpAny_holding (wpAny_bind ((tupleKind (intKind X.prog X.w)).pyHash (k := k) hu (keyI_of I2.hok hb) ?_))
  have hT2 : TS.TSet s.heap.objs.size [] s2.heap := tset_at I2 hH2
  refine TS.setAdd_t (s := { s2 with toks := s2.toks + (k.length + 1) }) hu hT2 (fun p hp => by simp at hp) (keyI_of I2.hok hb) (by decide) (fun hin => by simp at hin) fun hni h' sb hT' => ?_
  obtain ⟨o, ho, hto⟩ := id hT'
  have I3 : Inv X pins σ (upd H2 s.heap.objs.size (.ext (TS.TSet s.heap.objs.size [(k, b)]))) { s2 with heap := h', toks := s2.toks + (k.length + 1) } := I2.write (x := s.heap.objs.size) (e := s.heap.objs.size) (o := .ext (TS.TSet s.heap.objs.size [(k, b)])) (t' := s2.toks + (k.length + 1)) (by rw [hH2]; exact trivial) (.inl rfl) (fun b o hb e => sb.extBut b o hb e) ⟨o, ho⟩ (tset_ok hT')
  refine wpAny_pure (wpAny_pure ?_)
  exact wpAny_pure ⟨.ref s.heap.objs.size, _, I3, rfl, q2⟩
def eSetT (m : EM) : EM := fun l S => (m l (S ++ [.tset []])).bind fun p => match p.1 with
  | .tup ds => (intsD ds).bind fun k => match p.2[S.length]? with
    | some (.tset []) => some (.ref S.length, p.2.set S.length (.tset [k]))
    | _ => none
  | _ => none
theorem p3_setT {q : Str} {m : EM} (hr : Room j X.A) (hcd : PySem.W.codeIn X.K X.env.code q = true) (he : PE3 X e m) (hroad : displayRoad 0 [e] = .oneByOne := by rfl) (hstar : starEach [e] X.env = [(false, eval e X.env)] := by rfl) :
    PE3 X (.Set [e] 0 pos) (eSetT m) := PE.imp (pe_setT hr hcd he hroad hstar) fun σ H Q ⟨ρ, l, S, v, S', sim, ro, hm, p⟩ => by
  obtain ⟨⟨x, S1⟩, q1, hm⟩ := bnd hm
  intro a ha
  have sim1 : Sim X.K (ρ ++ [a]) (S ++ [.tset []]) (upd H a (.ext (TS.TSet a []))) := sim.pushG ha ⟨[], rfl, upd_same, fun p hp => by simp at hp⟩
  have ex := ext_newG (ρ := ρ) (u := .ext (TS.TSet a [])) ha
  refine ⟨ρ ++ [a], l, S ++ [.tset []], x, S1, sim1, ro.mono ex, q1, fun ρ1 H1 x' e1 s1 r1 => ?_⟩
  dsimp only at hm
  split at hm
  · rename_i ds
    obtain ⟨k, hk, hm⟩ := bnd hm
    split at hm
    · rename_i hS
      cases hm
      have hn : (ρ ++ [a])[S.length]? = some a := by rw [← sim.len]; exact get_self ρ a
      have hn1 := e1.pre _ _ hn
      cases r1 with
      | @tup _ b us hb rb =>
        have := intsD_rd hk rb
        subst this
        obtain ⟨ys, hy, hH, hys⟩ := s1.at' _ a _ hn1 hS
        have hy0 : ys = [] := by cases ys with | nil => rfl | cons y ys => simp at hy
        subst hy0
        refine ⟨b, k, rfl, hb, hH, ?_⟩
        have ex2 := ext_updG (o := .ext (TS.TSet a [(k, b)])) hn1 hH (plain_ext _)
        refine p ρ1 _ _ (ex.trans (e1.trans ex2)) (s1.setG hn1 hS rfl hH (plain_ext _) ⟨[(k, b)], rfl, upd_same, fun q hq => ?_⟩) (.ref hn1)
        rw [List.mem_singleton] at hq; subst hq
        exact ex2.tup _ _ hb
    · cases hm
  · cases hm
end
end L3
set_option Elab.async false
set_option maxHeartbeats 4000000
set_option maxRecDepth 100000
namespace L3
open PySem PySem.Spec PyProof.Rows L2
def keysD : List D → Option (List Key)
  | [] => some []
  | x :: r => (dKey x).bind fun k => (keysD r).bind fun ks => some (k :: ks)
def tKey : D → Option (List Key)
  | .tup xs => keysD xs
  | _ => none
theorem keysD_rd {ρ : List Addr} {H : Hp} : ∀ {xs : List D} {ks : List Key} {vs : List V}, keysD xs = some ks → RDs ρ H xs vs → vs = ks.map kV
  | [], ks, vs, h, r => by cases h; cases r; rfl
  | x :: xs, ks, vs, h, r => by
    cases r with
    | cons r1 r2 =>
      obtain ⟨k, h1, h⟩ := bnd (show (dKey x).bind (fun k => (keysD xs).bind fun ks => some (k :: ks)) = some ks from h)
      obtain ⟨ks', h2, h⟩ := bnd h
      cases h
      rw [keysD_rd h2 r2, key_kV h1 r1]; rfl
theorem tKey_rd {ρ : List Addr} {H : Hp} {d : D} {v : V} {k : List Key} (h : tKey d = some k) (r : RD ρ H d v) : ∃ b, v = .ref b ∧ H b = some (.tup (k.map kV)) := by
  cases r with
  | @tup xs b vs hb rs =>
    have := keysD_rd (show keysD xs = some k from h) rs
    subst this
    exact ⟨b, rfl, hb⟩
  | _ => cases h
def tvGet (kvs : List (List Key × D)) (k : List Key) : Option D := (kvs.find? fun kv => decide (kv.1 = k)).map (·.2)
def tvPut (kvs : List (List Key × D)) (k : List Key) (v : D) : List (List Key × D) := if (kvs.any fun kv => decide (kv.1 = k)) = true then kvs.map (fun kv => if kv.1 = k then (kv.1, v) else kv) else kvs ++ [(k, v)]
section
variable {K : PySem.W.Frag} {ρ : List Addr} {H : Hp} {S : Sto}
theorem tv_get {k : List Key} : ∀ {kvs : List (List Key × D)} {vs : List V}, RDs ρ H (kvs.map (·.2)) vs → (tvGet kvs k = none → valV ((kvs.map (·.1)).zip vs) k = none) ∧ ∀ d, tvGet kvs k = some d → ∃ v, valV ((kvs.map (·.1)).zip vs) k = some v ∧ RD ρ H d v
  | [], vs, r => by
    cases r
    exact ⟨fun _ => rfl, fun d h => by cases h⟩
  | (k', d') :: kvs, vs, r => by
    cases r with
    | @cons _ v _ vs r1 r2 =>
      by_cases e : k' = k
      · have e1 : tvGet ((k', d') :: kvs) k = some d' := by simp [tvGet, e]
        have e2 : valV ((((k', d') :: kvs).map (·.1)).zip (v :: vs)) k = some v := valV_pos (p := (k', v)) e
        rw [e1, e2]
        exact ⟨fun z => (by cases z), fun d h => (by cases h; exact ⟨v, rfl, r1⟩)⟩
      · have e1 : tvGet ((k', d') :: kvs) k = tvGet kvs k := by simp [tvGet, e]
        have e2 : valV ((((k', d') :: kvs).map (·.1)).zip (v :: vs)) k = valV ((kvs.map (·.1)).zip vs) k := valV_neg (p := (k', v)) e
        rw [e1, e2]
        exact tv_get r2
theorem tv_any (k : List Key) : ∀ {kvs : List (List Key × D)} {vs : List V}, RDs ρ H (kvs.map (·.2)) vs → (((kvs.map (·.1)).zip vs).any fun kv => decide (kv.1 = k)) = kvs.any fun kv => decide (kv.1 = k)
  | [], vs, r => by cases r; rfl
  | (k', d') :: kvs, vs, r => by
    cases r with
    | @cons _ v _ vs r1 r2 =>
      show (decide (k' = k) || (((kvs.map (·.1)).zip vs).any fun kv => decide (kv.1 = k))) = (decide (k' = k) || _)
      rw [tv_any k r2]
theorem tv_put {k : List Key} {d : D} {v : V} (rv : RD ρ H d v) {kvs : List (List Key × D)} {vs : List V} (r : RDs ρ H (kvs.map (·.2)) vs) : ∃ ws, putK ((kvs.map (·.1)).zip vs) k v = ((tvPut kvs k d).map (·.1)).zip ws ∧ RDs ρ H ((tvPut kvs k d).map (·.2)) ws := by
  unfold putK tvPut
  rw [tv_any k r]
  by_cases e : (kvs.any fun kv => decide (kv.1 = k)) = true
  · rw [if_pos e, if_pos e]
    clear e
    induction kvs generalizing vs with
    | nil => cases r; exact ⟨[], rfl, .nil⟩
    | cons p kvs ih =>
      obtain ⟨k', d'⟩ := p
      cases r with
      | @cons _ u _ us r1 r2 =>
        obtain ⟨ws, h1, h2⟩ := ih r2
        by_cases e : k' = k
        · refine ⟨v :: ws, ?_, ?_⟩
          · simp only [List.map_cons, List.zip_cons_cons, if_pos e]; rw [← h1]
          · simp only [List.map_cons, if_pos e]; exact .cons rv h2
        · refine ⟨u :: ws, ?_, ?_⟩
          · simp only [List.map_cons, List.zip_cons_cons, if_neg e]; rw [← h1]
          · simp only [List.map_cons, if_neg e]; exact .cons r1 h2
  · rw [if_neg e, if_neg e]
    refine ⟨vs ++ [v], ?_, ?_⟩
    · rw [List.map_append, List.zip_append (by rw [List.length_map]; have := r.length; rw [List.length_map] at this; exact this)]; rfl
    · rw [List.map_append]; exact r.append (.cons rv .nil)
end
def dRd (S : Sto) : D → D → Option (Option D)
  | .ref n, y => match S[n]? with
    | some (.dct kvs) => (dKey y).bind fun k => some (kvGet kvs k)
    | some (.fdct kvs) => (dKey y).bind fun k => some (kvGet kvs k)
    | some (.tdct kvs) => (tKey y).bind fun k => some (tvGet kvs k)
    | some (.ftdct kvs) => (tKey y).bind fun k => some (tvGet kvs k)
    | _ => none
  | _, _ => none
def isDc (S : Sto) : D → Option Unit
  | .ref n => match S[n]? with
    | some (.dct _) => some ()
    | some (.fdct _) => some ()
    | some (.tdct _) => some ()
    | some (.ftdct _) => some ()
    | _ => none
  | _ => none
def Ro1 (ρ : List Addr) (H : Hp) (o : Option D) (o' : Option V) : Prop := (o = none → o' = none) ∧ ∀ d, o = some d → ∃ v, o' = some v ∧ RD ρ H d v
theorem Ro1.isSome {ρ : List Addr} {H : Hp} {o : Option D} {o' : Option V} (r : Ro1 ρ H o o') : o'.isSome = o.isSome := by
  cases o with
  | none => rw [r.1 rfl]; rfl
  | some d => obtain ⟨v, e, _⟩ := r.2 d rfl; rw [e]; rfl
theorem Ro1.getD {ρ : List Addr} {H : Hp} {o : Option D} {o' : Option V} (r : Ro1 ρ H o o') {z : D} {z' : V} (rz : RD ρ H z z') : RD ρ H (o.getD z) (o'.getD z') := by
  cases o with
  | none => rw [r.1 rfl]; exact rz
  | some d => obtain ⟨v, e, q⟩ := r.2 d rfl; rw [e]; exact q
theorem Sim.isDc {K : PySem.W.Frag} {ρ : List Addr} {H : Hp} {S : Sto} {x : D} {x' : V} (s : Sim K ρ S H) (rx : RD ρ H x x') (h : L3.isDc S x = some ()) : ∃ a, x' = .ref a ∧ IsD H a := by
  unfold L3.isDc at h
  split at h
  · cases rx with
    | @ref n a hn =>
      refine ⟨a, rfl, ?_⟩
      split at h
      · rename_i e; obtain ⟨vs, hH, _⟩ := s.at' _ a _ hn e; exact .inl ⟨_, .inl hH⟩
      · rename_i e; obtain ⟨o, vs, hH, _⟩ := s.at' _ a _ hn e; exact .inl ⟨_, .inr ⟨o, hH⟩⟩
      · rename_i e; obtain ⟨vs, hH, _⟩ := s.at' _ a _ hn e; exact .inr ⟨_, .inl hH⟩
      · rename_i e; obtain ⟨o, vs, hH, _⟩ := s.at' _ a _ hn e; exact .inr ⟨_, .inr ⟨o, hH⟩⟩
      · cases h
  · cases h
theorem Sim.dRd {K : PySem.W.Frag} {ρ : List Addr} {H : Hp} {S : Sto} {x y : D} {x' y' : V} {o : Option D} (s : Sim K ρ S H) (rx : RD ρ H x x') (ry : RD ρ H y y') (h : L3.dRd S x y = some o) : ∃ a o', x' = .ref a ∧ DGet H a y' o' ∧ Ro1 ρ H o o' := by
  unfold L3.dRd at h
  split at h
  · cases rx with
    | @ref n a hn =>
      split at h
      · rename_i e
        obtain ⟨k, hk, h⟩ := bnd h
        cases h
        obtain ⟨vs, hH, r⟩ := s.at' _ a _ hn e
        have ey := key_kV hk ry
        subst ey
        exact ⟨a, _, rfl, .inl ⟨_, k, .inl hH, rfl, rfl⟩, kv_get r⟩
      · rename_i e
        obtain ⟨k, hk, h⟩ := bnd h
        cases h
        obtain ⟨ob, vs, hH, r⟩ := s.at' _ a _ hn e
        have ey := key_kV hk ry
        subst ey
        exact ⟨a, _, rfl, .inl ⟨_, k, .inr ⟨ob, hH⟩, rfl, rfl⟩, kv_get r⟩
      · rename_i e
        obtain ⟨k, hk, h⟩ := bnd h
        cases h
        obtain ⟨vs, hH, r⟩ := s.at' _ a _ hn e
        obtain ⟨b, rfl, hb⟩ := tKey_rd hk ry
        exact ⟨a, _, rfl, .inr ⟨_, k, b, .inl hH, rfl, hb, rfl⟩, tv_get r⟩
      · rename_i e
        obtain ⟨k, hk, h⟩ := bnd h
        cases h
        obtain ⟨ob, vs, hH, r⟩ := s.at' _ a _ hn e
        obtain ⟨b, rfl, hb⟩ := tKey_rd hk ry
        exact ⟨a, _, rfl, .inr ⟨_, k, b, .inr ⟨ob, hH⟩, rfl, hb, rfl⟩, tv_get r⟩
      · cases h
  · cases h
def dGetX : D → D → Sto → Option (D × Sto) := fun x y S => (dRd S x y).bind fun o => o.bind fun v => some (v, S)
theorem op3_getX {K : PySem.W.Frag} : Op3 K dGetX rDGet := by
  intro ρ S H x y x' y' v S' Q sim rx ry h p
  obtain ⟨o, h1, h⟩ := bnd h
  obtain ⟨w, h2, h⟩ := bnd h
  cases h
  obtain ⟨a, o', rfl, g, r⟩ := sim.dRd rx ry h1
  obtain ⟨u, e, ru⟩ := r.2 _ h2
  subst e
  exact ⟨a, u, rfl, g, p ρ H u (Ext.refl ..) sim ru⟩
def dInX (neg : Bool) : D → D → Sto → Option (D × Sto) := fun y x S => (dRd S x y).bind fun o => some (.bl (if neg then !o.isSome else o.isSome), S)
theorem op3_inX {K : PySem.W.Frag} {neg : Bool} : Op3 K (dInX neg) (fun y x H Q => ∃ a o, x = .ref a ∧ DGet H a y o ∧ Q (.bl (if neg then !o.isSome else o.isSome)) H) := by
  intro ρ S H y x y' x' v S' Q sim ry rx h p
  obtain ⟨o, h1, h⟩ := bnd h
  cases h
  obtain ⟨a, o', rfl, g, r⟩ := sim.dRd rx ry h1
  refine ⟨a, o', rfl, g, ?_⟩
  rw [r.isSome]
  exact p ρ H _ (Ext.refl ..) sim (.bl _)
section
variable {X : Cx} {a b e f o i value : Expr} {ma mb me mf mo mi mv : EM} {pos pos' apos cpos : Pos} {k : Nat}
theorem p3_getX (hr : Room k X.A) (ha : PE3 X a ma) (hb : PE3 X b mb) (hs : NoSl b := by intro _ _; rfl) : PE3 X (.Subscript a b pos) (eOp dGetX ma mb) := PE.imp (pe_dget (hu_of3 hr) ha hb hs) (te_op op3_getX)
theorem t3_inX (hr : Room k X.A) (ha : PE3 X a ma) (hb : PE3 X b mb) (hm : behindInMarks .In b = false := by rfl) : PT3 X (.Compare a [.In] [b] pos) (tE (eOp (dInX false) ma mb)) := t3_cmp (op_dIn hr) (op3_inX (neg := false)) ha hb hm
theorem t3_notinX (hr : Room k X.A) (ha : PE3 X a ma) (hb : PE3 X b mb) (hm : behindInMarks .NotIn b = false := by rfl) : PT3 X (.Compare a [.NotIn] [b] pos) (tE (eOp (dInX true) ma mb)) := t3_cmp (op_dNotIn hr) (op3_inX (neg := true)) ha hb hm
def eGet1 (o e : EM) : EM := fun l S => (o l S).bind fun p => (isDc p.2 p.1).bind fun _ => (e l p.2).bind fun q => (dRd q.2 p.1 q.1).bind fun r => some (r.getD .non, q.2)
def eGet2 (o e f : EM) : EM := fun l S => (o l S).bind fun p => (isDc p.2 p.1).bind fun _ => (e l p.2).bind fun q => (f l q.2).bind fun t => (dRd t.2 p.1 q.1).bind fun r => some (r.getD t.1, t.2)
theorem p3_get2 (hr : Room k X.A) (ho : PE3 X o mo) (he : PE3 X e me) (hf : PE3 X f mf) (m : M2 X o "get" apos e f cpos := by exact ⟨rfl, rfl, rfl, rfl⟩) : PE3 X (.Call (.Attribute o "get" apos) [e, f] [] cpos) (eGet2 mo me mf) := PE.imp (pe_dget2 (hu_of3 hr) ho he hf m) fun σ H Q ⟨ρ, l, S, v, S', sim, ro, hq, p⟩ => by
  obtain ⟨⟨x, S1⟩, h1, hq⟩ := bnd hq
  obtain ⟨_, h2, hq⟩ := bnd hq
  obtain ⟨⟨y, S2⟩, h3, hq⟩ := bnd hq
  obtain ⟨⟨z, S3⟩, h5, hq⟩ := bnd hq
  obtain ⟨r, h4, hq⟩ := bnd hq
  cases hq
  refine ⟨ρ, l, S, x, S1, sim, ro, h1, fun ρ1 H1 x' e1 s1 r1 => ?_⟩
  obtain ⟨a, rfl, da⟩ := s1.isDc r1 h2
  refine ⟨a, rfl, da, ρ1, l, S1, y, S2, s1, ro.mono e1, h3, fun ρ2 H2 y' e2 s2 r2 => ⟨ρ2, l, S2, z, _, s2, (ro.mono e1).mono e2, h5, fun ρ3 H3 z' e3 s3 r3 => ?_⟩⟩
  obtain ⟨a', o', ea, g, ro'⟩ := s3.dRd ((r1.mono e2).mono e3) (r2.mono e3) h4
  cases ea
  exact ⟨o', g, p ρ3 H3 _ (e1.trans (e2.trans e3)) s3 (ro'.getD r3)⟩
end
def eDictT : EM := fun _ S => some (.ref S.length, S ++ [.tdct []])
section
variable {X : Cx} {pos : Pos}
theorem p3_dictT : PE3 X (.Dict [] [] pos) eDictT := PE.imp pe_dnewT fun σ H Q ⟨ρ, l, S, v, S', sim, ro, hm, p⟩ => by
  cases hm
  intro a ha
  exact p (ρ ++ [a]) _ _ (ext_newG ha) (sim.pushG ha ⟨[], upd_same, .nil⟩) (.ref (by rw [← sim.len]; exact get_self ρ a))
end
theorem plain_dT (kvs : List (List Key × V)) : Plain (.dT kvs) := ⟨fun _ z => (by cases z), fun _ _ z => (by cases z)⟩
def putX : D → D → D → Sto → Option Sto
  | .ref n, y, v, S => match S[n]? with
    | some (.dct kvs) => (dKey y).bind fun k => if kvs.length < sizeLine then some (S.set n (.dct (kvPut kvs k v))) else none
    | some (.tdct kvs) => (tKey y).bind fun k => if kvs.length < sizeLine then some (S.set n (.tdct (tvPut kvs k v))) else none
    | _ => none
  | _, _, _, _ => none
theorem zipT_len {ρ : List Addr} {H : Hp} {kvs : List (List Key × D)} {vs : List V} (r : RDs ρ H (kvs.map (·.2)) vs) : ((kvs.map (·.1)).zip vs).length = kvs.length := by
  rw [List.length_zip, List.length_map]; have := r.length; rw [List.length_map] at this; omega
theorem putX_ok {K : PySem.W.Frag} {ρ : List Addr} {S S' : Sto} {H : Hp} {x y d : D} {x' y' v' : V} (s : Sim K ρ S H) (rx : RD ρ H x x') (ry : RD ρ H y y') (rd : RD ρ H d v') (h : putX x y d S = some S') : ∃ a H', x' = .ref a ∧ DPut H a y' v' H' ∧ Ext ρ H ρ H' ∧ Sim K ρ S' H' := by
  unfold putX at h
  split at h
  · cases rx with
    | @ref n a hn =>
      split at h
      · rename_i kvs e
        obtain ⟨k, hk, h⟩ := bnd h
        obtain ⟨hz, e2⟩ := ite_some h
        cases e2
        obtain ⟨vs, hH, r⟩ := s.at' _ a _ hn e
        have ey := key_kV hk ry
        subst ey
        obtain ⟨ws, hw1, hw2⟩ := kv_put (k := k) rd r
        have ex := ext_updG (o := .dK (putK ((kvs.map (·.1)).zip vs) k v')) hn hH (plain_dK _)
        refine ⟨a, _, rfl, DPut.k hH (by rw [zip_len r]; exact hz), ex, s.setG hn e rfl hH (plain_dK _) ⟨ws, by rw [upd_same, hw1], hw2.mono ex⟩⟩
      · rename_i kvs e
        obtain ⟨k, hk, h⟩ := bnd h
        obtain ⟨hz, e2⟩ := ite_some h
        cases e2
        obtain ⟨vs, hH, r⟩ := s.at' _ a _ hn e
        obtain ⟨b, rfl, hb⟩ := tKey_rd hk ry
        obtain ⟨ws, hw1, hw2⟩ := tv_put (k := k) rd r
        have ex := ext_updG (o := .dT (putK ((kvs.map (·.1)).zip vs) k v')) hn hH (plain_dT _)
        refine ⟨a, _, rfl, DPut.t hH hb (by rw [zipT_len r]; exact hz), ex, s.setG hn e rfl hH (plain_dT _) ⟨ws, by rw [upd_same, hw1], hw2.mono ex⟩⟩
      · cases h
  · cases h
def gPutX (o i : EM) : GM := fun v l S => (o l S).bind fun p => (i l p.2).bind fun q => (putX p.1 q.1 v q.2).bind fun S' => some (l, S')
section
variable {X : Cx} {o i value : Expr} {mo mi mv : EM} {pos pos' : Pos} {k : Nat}
theorem s3_putX (hr : Room k X.A) (ho : PE3 X o mo) (hi : PE3 X i mi) (hv : PE3 X value mv) (hs : swapsWith value (some (.Subscript o i pos')) pos.line X.env = pure false := by rfl) :
    PS3 X (.Assign [.Subscript o i pos'] value pos) (sAsg mv (gPutX mo mi)) := PS.imp (ps_dput (hu_of3 hr) ho hi hv hs) fun E σ H ⟨ρ, l, S, f, l', S', sim, ro, hm, p⟩ => by
  obtain ⟨⟨d, S1⟩, h1, hm⟩ := bnd hm
  obtain ⟨⟨l2, S2⟩, h2, hm⟩ := bnd hm
  obtain ⟨⟨x, S3⟩, h3, h2⟩ := bnd h2
  obtain ⟨⟨y, S4⟩, h4, h2⟩ := bnd h2
  obtain ⟨S5, h5, h2⟩ := bnd h2
  cases h2; cases hm
  refine ⟨ρ, l, S, d, S1, sim, ro, h1, fun ρ1 H1 v' e1 s1 r1 => ⟨ρ1, l, S1, x, S3, s1, ro.mono e1, h3, fun ρ2 H2 x' e2 s2 r2 => ⟨ρ2, l, S3, y, S4, s2, (ro.mono e1).mono e2, h4, fun ρ3 H3 y' e3 s3 r3 => ?_⟩⟩⟩
  obtain ⟨a, H4, rfl, pu, ex, s4⟩ := putX_ok s3 (r2.mono e3) r3 (r1.mono (e2.trans e3)) h5
  exact ⟨a, H4, rfl, pu, p ρ3 _ σ ((e1.trans (e2.trans e3)).trans ex) s4 ((((ro.mono e1).mono e2).mono e3).mono ex)⟩
end
end L3
set_option Elab.async false
set_option maxHeartbeats 4000000
set_option maxRecDepth 100000
namespace L3
open PySem PySem.Spec PyProof.Rows L2
def Fnc (K : PySem.W.Frag) (mg : Str → Option Value) (x : Str) : Prop := ∃ f o, PySem.W.nsIn K mainGlobals x = some (some (.ref f)) ∧ K.lookup f = some o ∧ mg x = some (.ref f)
def eFnc (x : Str) : EM := fun _ S => some (.ref S.length, S ++ [.fnc x])
section
variable {K : PySem.W.Frag} {ρ : List Addr} {H : Hp} {S : Sto}
theorem ext_fnc {a : Addr} (ha : H a = none) : Ext ρ H (ρ ++ [a]) H :=
  ⟨ext0_push, fun b vs h n => ⟨h, fun i hi => by
    rcases get_push hi with hi | ⟨_, z⟩
    · exact n i hi
    · rw [z, ha] at h; cases h⟩⟩
theorem Sim.fnc {a : Addr} {x : Str} (s : Sim K ρ S H) (h1 : PySem.W.nsIn K mainGlobals x = some (some (.ref a))) (h2 : ∃ o, K.lookup a = some o) : Sim K (ρ ++ [a]) (S ++ [.fnc x]) H := by
  refine ⟨by simp [s.len], fun i j b x1 x2 g1 g2 g3 g4 m1 m2 => ?_, fun n b o g1 g2 => ?_⟩
  · rcases get_push g3 with g3 | ⟨e3, f3⟩
    · rcases get_push g4 with g4 | ⟨e4, f4⟩
      · have l1 := (List.getElem?_eq_some_iff.mp g3).1
        have l2 := (List.getElem?_eq_some_iff.mp g4).1
        have l := s.len
        rcases get_push g1 with g1 | ⟨q1, _⟩
        · rcases get_push g2 with g2 | ⟨q2, _⟩
          · exact s.nd i j b _ _ g1 g2 g3 g4 m1 m2
          · omega
        · omega
      · subst f4; cases m2
    · subst f3; cases m1
  · rcases get_push g1 with g1 | ⟨e1, f1⟩
    · rcases get_push g2 with g2 | ⟨e2, f2⟩
      · exact (s.at' n b o g1 g2).more ext0_push
      · have := (List.getElem?_eq_some_iff.mp g1).1; have := s.len; omega
    · subst f1
      rcases get_push g2 with g2 | ⟨e2, f2⟩
      · have := (List.getElem?_eq_some_iff.mp g2).1; have := s.len; omega
      · subst f2
        exact ⟨h1, h2⟩
end
section
variable {X : Cx} {x y : Str} {pos p : Pos} {a : Expr} {es : List Expr}
theorem pe_fnc {f : Addr} {o : Obj} (hg : Gl X x) (hm : X.mg x = some (.ref f)) (hk : X.K.lookup f = some o) (hd : (x == ("__debug__" : Str)) = false := by decide) : PE X (.Name x pos) (fun _ H Q => H f = none → Q (.ref f) H) :=
  fun _ _ _ H _ I h => ld_glob I hg hm ⟨.ref f, H, I, rfl, h (I.bs f o (I.ok.mod.kin f o hk)).2⟩ hd
theorem p3_fnc (F : Fnc X.K X.mg x) (hg : Gl X x) (hd : (x == ("__debug__" : Str)) = false := by decide) : PE3 X (.Name x pos) (eFnc x) := by
  obtain ⟨f, o, h1, h2, h3⟩ := F
  refine PE.imp (pe_fnc hg h3 h2 hd) fun σ H Q ⟨ρ, l, S, v, S', sim, ro, hm, p⟩ => ?_
  cases hm
  intro hf
  exact p (ρ ++ [f]) H _ (ext_fnc hf) (sim.fnc h1 ⟨o, h2⟩) (.ref (by rw [← sim.len]; exact get_self ρ f))
theorem pe_callV {tv : TE} {t : TA} {j : Nat} (hr : Room j X.A) (hv : PE X (.Name y p) tv) (ha : PA X (a :: es) t) (he : starEach (a :: es) X.env = (false, eval a X.env) :: starEach es X.env := by rfl) (hpl : (backTo pos (starEach es X.env)).any (·.1) = false := by rfl) :
    PE X (.Call (.Name y p) (a :: es) [] pos) (fun σ H Q => tv σ H fun x H1 => ∃ f fd ps sp k, x = .ref f ∧ FnOk X.prog X.w X.K X.mg X.base CX0 k f fd ps sp ∧ k ≤ j ∧ PySem.W.keepIn X.K (.ref f) = true ∧ Binds X.K fd ps [] ∧ tCall sp [] E0 t σ H1 Q) := by
  intro pins s σ H Q I h
  refine wpAny_Call_Name_kw (thn (hv pins s σ H _ I h) fun u s0 ⟨x, H0, I0, rx, f, fd, ps, sp, k, ex, F, hkj, hk, hb, q0⟩ => ?_)
  subst ex
  cases rx
  refine PySem.W.callWith_K (h₀ := X.base) I.ok.mod.kin hk (thn (ha pos pins s0 σ H0 _ I0 q0) fun us s1 ⟨vs, H1, I1, r, q⟩ => ⟨I1.kIn, ?_⟩) he hpl
  exact run_fn F (hr.mono hkj) hb .nil pass0 I1 r q
def fncOf (S : Sto) : D → Option Str
  | .ref n => match S[n]? with
    | some (.fnc x) => some x
    | _ => none
  | _ => none
def eCallV (tab : List (Str × FM)) (e : EM) (as : AM) : EM := fun l S => (e l S).bind fun p => (fncOf p.2 p.1).bind fun x => (tab.lookup x).bind fun m => (as l p.2).bind fun q => m q.1 q.2
theorem p3_callV {j n : Nat} {me : EM} {mA : AM} {tab : List (Str × FM)} (hr : Room j X.A) (hv : PE3 X (.Name y p) me) (ha : PA3 X (a :: es) mA) (hl : ∀ l S v S', mA l S = some (v, S') → v.length = n)
    (ht : ∀ x m, tab.lookup x = some m → Fnc X.K X.mg x ∧ ∃ k, k ≤ j ∧ Has X.prog X.w X.K X.mg X.base x k n m)
    (he : starEach (a :: es) X.env = (false, eval a X.env) :: starEach es X.env := by rfl) (hpl : (backTo pos (starEach es X.env)).any (·.1) = false := by rfl) :
    PE3 X (.Call (.Name y p) (a :: es) [] pos) (eCallV tab me mA) := PE.imp (pe_callV hr hv ha he hpl) fun σ H Q ⟨ρ, l, S, v, S', sim, ro, hq, p⟩ => by
  obtain ⟨⟨x, S1⟩, h1, hq⟩ := bnd hq
  obtain ⟨nm, h2, hq⟩ := bnd hq
  obtain ⟨m, h3, hq⟩ := bnd hq
  obtain ⟨⟨xs, S2⟩, h4, hq2⟩ := bnd hq
  obtain ⟨⟨f, o, n1, n2, n3⟩, k, hk, f', fd, ps, F, hm, kp, hb⟩ := ht nm m h3
  have ef : f' = f := by rw [n3] at hm; cases hm; rfl
  subst ef
  refine ⟨ρ, l, S, x, S1, sim, ro, h1, fun ρ1 H1 x' e1 s1 r1 => ?_⟩
  unfold fncOf at h2
  dsimp only at h2
  split at h2
  · split at h2
    · rename_i e
      cases h2
      cases r1 with
      | @ref _ a' hn =>
        obtain ⟨g1, _⟩ := s1.at' _ a' _ hn e
        rw [n1] at g1
        cases g1
        exact ⟨f', fd, ps, _, k, rfl, F, hk, kp, hb, ρ1, l, S1, xs, S2, s1, ro.mono e1, h4, fun ρ2 H2 vs e2 s2 r2 => ⟨by rw [List.append_nil, ← r2.length]; exact hl _ _ _ _ h4, ρ2, xs, S2, v, S', s2, by rw [List.append_nil]; exact r2, hq2, p.ext (e1.trans e2)⟩⟩
    · cases h2
  · cases h2
theorem tab1 {R : Str → FM → Prop} {x : Str} {m : FM} (h : R x m) : ∀ y m', ([(x, m)] : List (Str × FM)).lookup y = some m' → R y m' := fun y m' e => by
  rw [List.lookup_cons] at e
  split at e
  · rename_i c
    cases e
    rw [eq_of_beq c]; exact h
  · cases e
end
end L3
set_option Elab.async false
set_option maxHeartbeats 4000000
set_option maxRecDepth 100000
namespace L3
open PySem
theorem ex_some {α : Type} {x : α} {p : α → Prop} : (∃ d, (some (some x) : Option (Option α)) = some (some d) ∧ p d) = p x := by
  apply propext; constructor
  · rintro ⟨d, h, q⟩; cases h; exact q
  · exact fun q => ⟨x, rfl, q⟩
theorem ex_some1 {α : Type} {x : α} {p : α → Prop} : (∃ d, (some x : Option α) = some d ∧ p d) = p x := by
  apply propext; constructor
  · rintro ⟨d, h, q⟩; cases h; exact q
  · exact fun q => ⟨x, rfl, q⟩
theorem ex_bl {b : Bool} {p : Bool → Prop} : (∃ k, D.bl b = D.bl k ∧ p k) = p b := by
  apply propext; constructor
  · rintro ⟨d, h, q⟩; cases h; exact q
  · exact fun q => ⟨b, rfl, q⟩
theorem ex_int {b : Int} {p : Int → Prop} : (∃ k, ([D.int b] : List D) = [D.int k] ∧ p k) = p b := by
  apply propext; constructor
  · rintro ⟨d, h, q⟩; cases h; exact q
  · exact fun q => ⟨b, rfl, q⟩
theorem at2_0 {α : Type} {x y : α} : L2.atI [x, y] 0 = some x := rfl
theorem at2_1 {α : Type} {x y : α} : L2.atI [x, y] 1 = some y := rfl
theorem at3_0 {α : Type} {x y z : α} : L2.atI [x, y, z] 0 = some x := rfl
theorem at3_1 {α : Type} {x y z : α} : L2.atI [x, y, z] 1 = some y := rfl
theorem at3_2 {α : Type} {x y z : α} : L2.atI [x, y, z] 2 = some z := rfl
theorem lstOf_last {S : Sto} {xs : List D} : lstOf (S ++ [.lst xs]) S.length = some xs := by unfold lstOf; rw [get_self]
theorem set_last {α : Type} (l : List α) (x y : α) : (l ++ [x]).set l.length y = l ++ [y] := by
  induction l with
  | nil => rfl
  | cons z r ih => show z :: (r ++ [x]).set r.length y = _; rw [ih]; rfl
theorem atI_in {α : Type} (xs : List α) (i : Int) (h0 : 0 ≤ i) (h1 : i < xs.length) : ∃ x, L2.atI xs i = some x ∧ x ∈ xs := by
  have hl : i.toNat < xs.length := by omega
  refine ⟨xs[i.toNat], ?_, List.getElem_mem hl⟩
  unfold L2.atI L2.ixN
  rw [if_pos h0, if_pos h1]
  simp [hl]
theorem atI_get {α : Type} {xs : List α} {i : Nat} {x : α} (h : xs[i]? = some x) : L2.atI xs (i : Int) = some x := by
  have hl := (List.getElem?_eq_some_iff.mp h).1
  unfold L2.atI L2.ixN
  rw [if_pos (by omega), if_pos (by omega)]
  simpa using h
section
variable {S : Sto} {Q : D → Sto → Prop} {l : Lo} {QG : Lo → Sto → Prop}
theorem wo_times {i j : Int} : Wo (dTimes (.int i) (.int j) S) Q = (((-(2 ^ 64) < i ∧ i < 2 ^ 64) ∨ (-(2 ^ 64) < j ∧ j < 2 ^ 64)) ∧ Q (.int (i * j)) S) := wo_ite
theorem wo_none : Wo none Q = False := by unfold Wo; simp
theorem wo_ixAT {xs : List D} {i : Int} : Wo (dIxA (.tup xs) (.int i) S) Q = ∃ v, L2.atI xs i = some v ∧ Q v S := by
  have e : dIxA (.tup xs) (.int i) S = dIx (.tup xs) (.int i) S := by
    unfold dIxA
    cases h : dIx (.tup xs) (.int i) S with
    | some v => rfl
    | none => rfl
  rw [e, wo_ixT]
theorem wo_ixAL {k : Nat} {i : Int} : Wo (dIxA (.ref k) (.int i) S) Q = ∃ xs, lstOf S k = some xs ∧ ∃ v, L2.atI xs i = some v ∧ Q v S := by
  have e : dIxA (.ref k) (.int i) S = dIx (.ref k) (.int i) S := by
    unfold dIxA
    cases h : dIx (.ref k) (.int i) S with
    | some v => rfl
    | none => rfl
  rw [e, wo_ixL]
theorem wo_ixAS {z : Str} {i : Int} : Wo (dIxA (.str z) (.int i) S) Q = (z.length ≤ sizeLine ∧ ∃ c, L2.atI z.cps.toList i = some c ∧ Q (.str ⟨#[c]⟩) S) := by
  show Wo (if z.length ≤ sizeLine then (L2.atI z.cps.toList i).bind fun c => some (.str ⟨#[c]⟩, S) else none) Q = _
  by_cases h : z.length ≤ sizeLine
  · rw [if_pos h, wo_bind]; simp only [wo_some, h, true_and]
  · rw [if_neg h, wo_none]; simp [h]
theorem wo_lenAL {k : Nat} : Wo (fLenA [.ref k] S) Q = ∃ xs, lstOf S k = some xs ∧ Q (.int xs.length) S := wo_lenL
theorem wo_lenAT {xs : List D} : Wo (fLenA [.tup xs] S) Q = Q (.int xs.length) S := wo_lenT
theorem wo_lenAS {z : Str} : Wo (fLenA [.str z] S) Q = (z.length ≤ sizeLine ∧ Q (.int z.length) S) := wo_ite
theorem wo_str {i : Int} : Wo (fStr [.int i] S) Q = (i.natAbs.log2 < 1920 ∧ Q (.str (toString i)) S) := wo_ite
theorem wo_eqSt {i j : Str} : Wo (dEq (.str i) (.str j) S) Q = Q (.bl (decide (i = j))) S := wo_some
theorem wo_neB {i j : Bool} : Wo (dNe (.bl i) (.bl j) S) Q = Q (.bl (!decide (i = j))) S := wo_some
theorem wo_neI {i j : Int} : Wo (dNe (.int i) (.int j) S) Q = Q (.bl (!decide (i = j))) S := wo_some
theorem wo_anyL {n : Nat} : Wo (fAny [.ref n] S) Q = ∃ xs, lstOf S n = some xs ∧ xs.all isBlD = true ∧ Q (.bl (xs.any isT)) S := by
  show Wo ((lstOf S n).bind fun xs => if xs.all isBlD = true then some (.bl (xs.any isT), S) else none) Q = _
  rw [wo_bind]; simp only [wo_ite]
theorem we_methS {f : D → List D → Sto → Option (D × Sto)} {a : EM} {r : AM} : We (eMethS f a r) l S Q = We a l S fun x S1 => recvS x = some () ∧ Wa r l S1 fun ys S2 => Wo (f x ys S2) Q := by
  apply propext
  constructor
  · rintro ⟨v, S', h, q⟩
    obtain ⟨⟨x, S1⟩, h1, h⟩ := bnd h
    obtain ⟨_, h2, h⟩ := bnd h
    obtain ⟨⟨y, S2⟩, h3, h⟩ := bnd h
    exact ⟨x, S1, h1, h2, y, S2, h3, v, S', h, q⟩
  · rintro ⟨x, S1, h1, h2, y, S2, h3, v, S', h, q⟩
    refine ⟨v, S', ?_, q⟩
    unfold eMethS; rw [h1]; show (recvS x).bind _ = _; rw [h2]; show (r l S1).bind _ = _; rw [h3]; exact h
theorem wg_dput {o i : EM} {v : D} : Wg (gDPut o i v l S) QG = We o l S fun x S1 => We i l S1 fun y S2 => ∃ S', putD x y v S2 = some S' ∧ QG l S' := by
  apply propext
  constructor
  · rintro ⟨l', S', h, q⟩
    obtain ⟨⟨x, S1⟩, h1, h⟩ := bnd h
    obtain ⟨⟨y, S2⟩, h2, h⟩ := bnd h
    obtain ⟨S3, h3, h⟩ := bnd h
    cases h
    exact ⟨x, S1, h1, y, S2, h2, _, h3, q⟩
  · rintro ⟨x, S1, h1, y, S2, h2, S3, h3, q⟩
    refine ⟨l, S3, ?_, q⟩
    unfold gDPut; rw [h1]; show (i l S1).bind _ = _; rw [h2]; show (putD x y v S2).bind _ = _; rw [h3]; rfl
theorem wo_isI_bl {U : String} {b : Bool} : Wo (fIsI U (.bl b) S) Q = Q (.bl (isI "bool" U)) S := wo_some
theorem wo_isI_int {U : String} {b : Int} : Wo (fIsI U (.int b) S) Q = Q (.bl (isI "int" U)) S := wo_some
theorem wo_isI_str {U : String} {b : Str} : Wo (fIsI U (.str b) S) Q = Q (.bl (isI "str" U)) S := wo_some
theorem wo_isI_tup {U : String} {b : List D} : Wo (fIsI U (.tup b) S) Q = Q (.bl (isI "tuple" U)) S := wo_some
theorem wo_isI_non {U : String} : Wo (fIsI U .non S) Q = Q (.bl (isI "NoneType" U)) S := wo_some
theorem isI_same {U : String} : isI U U = true := by unfold isI; simp
theorem wo_neNil {n m : Nat} {xs : List D} (h1 : S[n]? = some (.lst xs)) (h2 : S[m]? = some (.lst [])) : Wo (dNeNil (.ref n) (.ref m) S) Q = Q (.bl (!xs.isEmpty)) S := by
  show Wo (match S[n]?, S[m]? with | some (.lst xs), some (.lst []) => some (.bl (!xs.isEmpty), S) | _, _ => none) Q = _
  rw [h1, h2]; exact wo_some
end
def Gr (S0 S : Sto) : Prop := ∃ ex, S = S0 ++ ex
theorem Gr.refl (S : Sto) : Gr S S := ⟨[], by rw [List.append_nil]⟩
theorem Gr.trans {A B C : Sto} (h : Gr A B) (g : Gr B C) : Gr A C := by obtain ⟨x, rfl⟩ := h; obtain ⟨y, rfl⟩ := g; exact ⟨x ++ y, by rw [List.append_assoc]⟩
theorem Gr.push {A B : Sto} (h : Gr A B) (o : Ob) : Gr A (B ++ [o]) := h.trans ⟨[o], rfl⟩
theorem Gr.get {A B : Sto} {n : Nat} {o : Ob} (h : Gr A B) (e : A[n]? = some o) : B[n]? = some o := by
  obtain ⟨x, rfl⟩ := h
  rw [List.getElem?_append_left (List.getElem?_eq_some_iff.mp e).1]; exact e
theorem Gr.lst {A B : Sto} {n : Nat} {xs : List D} (h : Gr A B) (e : lstOf A n = some xs) : lstOf B n = some xs := by
  unfold lstOf at e ⊢
  cases q : A[n]? with
  | none => rw [q] at e; cases e
  | some o => rw [h.get q]; rw [q] at e; exact e
section
variable {it : ItM} {im : IM} {ixs : List (Option Nat)} {g : GM} {t : TM} {e : EM} {l : Lo} {S S1 : Sto} {Q : D → Sto → Prop} {k : Nat}
theorem compG_inv (xs : List D) (R : Nat → List D → Lo → Sto → Prop) (hit : ∀ i acc l S, R i acc l S → it i S = some xs[i]?)
    (step : ∀ (i : Nat) x acc l S, xs[i]? = some x → R i acc l S → Wg (g x l S) fun l1 S1 => Wt t l1 S1 fun b S2 => if b = true then We e l1 S2 fun v S3 => R (i + 1) (acc ++ [v]) l1 S3 else R (i + 1) acc l1 S2) :
    ∀ (n i : Nat) (acc : List D) (l : Lo) (S : Sto), n + i = xs.length → R i acc l S → ∃ rest S' l', compG it g t e (n + 1) i l S = some (rest, S') ∧ R xs.length (acc ++ rest) l' S'
  | 0, i, acc, l, S, hn, h => by
    have hi : i = xs.length := by omega
    have e0 := hit i acc l S h
    rw [List.getElem?_eq_none_iff.mpr (by omega)] at e0
    refine ⟨[], S, l, ?_, by rw [List.append_nil, ← hi]; exact h⟩
    unfold compG; rw [e0]; rfl
  | n + 1, i, acc, l, S, hn, h => by
    have hi : i < xs.length := by omega
    have e0 := hit i acc l S h
    rw [List.getElem?_eq_getElem hi] at e0
    obtain ⟨l1, S1, e1, b, S2, e2, q⟩ := step i _ acc l S (List.getElem?_eq_getElem hi) h
    cases b with
    | true =>
      obtain ⟨v, S3, e3, q⟩ := q
      obtain ⟨rest, S', l', e4, q⟩ := compG_inv xs R hit step n (i + 1) (acc ++ [v]) l1 S3 (by omega) q
      refine ⟨v :: rest, S', l', ?_, by rw [List.append_assoc] at q; exact q⟩
      unfold compG; rw [e0]; show (g _ l S).bind _ = _; rw [e1]; show (t l1 S1).bind _ = _; rw [e2]
      show (e l1 S2).bind _ = _; rw [e3]; show (compG it g t e (n + 1) (i + 1) l1 S3).bind _ = _; rw [e4]; rfl
    | false =>
      obtain ⟨rest, S', l', e4, q⟩ := compG_inv xs R hit step n (i + 1) acc l1 S2 (by omega) q
      refine ⟨rest, S', l', ?_, q⟩
      unfold compG; rw [e0]; show (g _ l S).bind _ = _; rw [e1]; show (t l1 S1).bind _ = _; rw [e2]
      exact e4
theorem we_comp (xs : List D) (R : Nat → List D → Lo → Sto → Prop) (him : im l S = some (it, xs.length + 1, S1)) (h0 : R 0 [] (srcL ixs l) S1) (hit : ∀ i acc l S, R i acc l S → it i S = some xs[i]?)
    (step : ∀ (i : Nat) x acc l S, xs[i]? = some x → R i acc l S → Wg (g x l S) fun l1 S1 => Wt t l1 S1 fun b S2 => if b = true then We e l1 S2 fun v S3 => R (i + 1) (acc ++ [v]) l1 S3 else R (i + 1) acc l1 S2)
    (fin : ∀ acc l' S', R xs.length acc l' S' → acc.length ≤ sizeLine ∧ Q (.ref S'.length) (S' ++ [.lst acc])) : We (eComp im ixs g t e) l S Q := by
  obtain ⟨rest, S', l', h1, h2⟩ := compG_inv (it := it) (g := g) (t := t) (e := e) xs R hit step xs.length 0 [] (srcL ixs l) S1 rfl h0
  obtain ⟨hz, q⟩ := fin rest l' S' h2
  refine ⟨_, _, ?_, q⟩
  unfold eComp; rw [him]; show (compG it g t e (xs.length + 1) 0 (srcL ixs l) S1).bind _ = _; rw [h1]; show (if _ then _ else _) = _; rw [if_pos hz]
theorem we_compM (xs : List D) (F : D → D) (P : Sto → Prop) (L : Lo → Prop) (him : im l S = some (it, xs.length + 1, S1)) (h0 : P S1) (l0 : L (srcL ixs l)) (hit : ∀ i S, P S → it i S = some xs[i]?) (hz : xs.length ≤ sizeLine)
    (step : ∀ x l S, x ∈ xs → L l → P S → Wg (g x l S) fun l1 S2 => P S2 ∧ L l1 ∧ We e l1 S2 fun v S3 => v = F x ∧ P S3)
    (fin : ∀ S', P S' → Q (.ref S'.length) (S' ++ [.lst (xs.map F)])) : We (eComp im ixs g tTrue e) l S Q := by
  refine we_comp xs (fun i acc l S => acc = (xs.take i).map F ∧ L l ∧ P S) him ⟨rfl, l0, h0⟩ (fun i acc l S h => hit i S h.2.2) ?_ ?_
  · rintro i x acc l S hx ⟨rfl, hl, hp⟩
    obtain ⟨l1, S2, e1, p1, q1, v, S3, e2, rfl, p3⟩ := step x l S (List.mem_of_getElem? hx) hl hp
    refine ⟨l1, S2, e1, ?_⟩
    dsimp only
    rw [wt_true, if_pos rfl]
    refine ⟨_, S3, e2, ?_, q1, p3⟩
    rw [List.take_add_one, hx]; simp
  · rintro acc l' S' ⟨rfl, hl, hp⟩
    rw [List.take_length]
    exact ⟨by rw [List.length_map]; exact hz, fin S' hp⟩
theorem we_compF (xs : List D) (F : D → Option D) (P : Sto → Prop) (L : Lo → Prop) (him : im l S = some (it, xs.length + 1, S1)) (h0 : P S1) (l0 : L (srcL ixs l)) (hit : ∀ i S, P S → it i S = some xs[i]?) (hz : xs.length ≤ sizeLine)
    (step : ∀ x l S, x ∈ xs → L l → P S → Wg (g x l S) fun l1 S2 => L l1 ∧ Wt t l1 S2 fun b S3 => P S3 ∧ (b = false → F x = none) ∧ (b = true → We e l1 S3 fun v S4 => F x = some v ∧ P S4))
    (fin : ∀ S', P S' → Q (.ref S'.length) (S' ++ [.lst (xs.filterMap F)])) : We (eComp im ixs g t e) l S Q := by
  refine we_comp xs (fun i acc l S => acc = (xs.take i).filterMap F ∧ L l ∧ P S) him ⟨rfl, l0, h0⟩ (fun i acc l S h => hit i S h.2.2) ?_ ?_
  · rintro i x acc l S hx ⟨rfl, hl, hp⟩
    obtain ⟨l1, S2, e1, q1, b, S3, e2, p3, hf, ht⟩ := step x l S (List.mem_of_getElem? hx) hl hp
    refine ⟨l1, S2, e1, b, S3, e2, ?_⟩
    have et : xs.take (i + 1) = xs.take i ++ [x] := by rw [List.take_add_one, hx]; rfl
    cases b with
    | true =>
      obtain ⟨v, S4, e4, hv, p4⟩ := ht rfl
      dsimp only
      rw [if_pos rfl]
      refine ⟨v, S4, e4, ?_, q1, p4⟩
      rw [et, List.filterMap_append]; simp [hv]
    | false =>
      dsimp only
      rw [if_neg Bool.false_ne_true]
      refine ⟨?_, q1, p3⟩
      rw [et, List.filterMap_append]; simp [hf rfl]
  · rintro acc l' S' ⟨rfl, hl, hp⟩
    rw [List.take_length]
    exact ⟨Nat.le_trans (List.length_filterMap_le _ _) hz, fin S' hp⟩
end
theorem rng_ok {as : AM} {l : Lo} {S S1 : Sto} {j : Int} (h : as l S = some ([.int j], S1)) (hz : -(2 ^ 62) ≤ j ∧ j < 2 ^ 62) : rng1 as l S = some ((0, j.toNat), S1) := by
  unfold rng1; rw [h]; simp only [Option.bind_some]; rw [if_pos hz]
theorem rng_im {as : AM} {l : Lo} {S S1 : Sto} {n : Nat} (h : as l S = some ([.int (n : Int)], S1)) (hn : n < 1000000000) : iRng (rng1 as) l S = some (itX (rngD 0 n), (rngD 0 n).length + 1, S1) := by
  have := rng_ok h ⟨by omega, by omega⟩
  unfold iRng; rw [this]; simp only [Option.bind_some, Int.toNat_natCast, rngD_len]
theorem valL_im {e : EM} {l : Lo} {S S1 : Sto} {n : Nat} {xs : List D} (h : e l S = some (.ref n, S1)) (hn : lstOf S1 n = some xs) : iVal e l S = some (itL n, xs.length + 1, S1) := by
  unfold iVal; rw [h]; show (lstOf S1 n).bind _ = _; rw [hn]; rfl
theorem itL_at {n i : Nat} {S : Sto} {xs : List D} (hn : lstOf S n = some xs) : itL n i S = some xs[i]? := by unfold itL; rw [hn]; rfl
section
variable {g : GM} {b : SM}
theorem forX_out (P : Nat → Lo → Sto → Prop) (O : D → Sto → Prop) : ∀ (xs : List D) (k : Nat) (l : Lo) (S : Sto), P k l S →
    (∀ (i : Nat) x l S, xs[i]? = some x → P (k + i) l S → Wg (g x l S) fun l1 S1 => Ws b l1 S1 fun f l2 S2 => ((f = .nx ∨ f = .ct) ∧ P (k + i + 1) l2 S2) ∨ ∃ d, f = .rt d ∧ O d S2) →
    Wr (forX g b xs l S) fun f l' S' => (f = .nx ∧ P (k + xs.length) l' S') ∨ ∃ d, f = .rt d ∧ O d S'
  | [], k, l, S, h0, _ => ⟨_, _, _, rfl, .inl ⟨rfl, h0⟩⟩
  | x :: xs, k, l, S, h0, hs => by
    obtain ⟨l1, S1, e1, f, l2, S2, e2, q⟩ := hs 0 x l S rfl h0
    rcases q with ⟨hf, h1⟩ | ⟨d, rfl, hd⟩
    · have ih := forX_out P O xs (k + 1) l2 S2 h1 fun i y l S hy hp => by
        have := hs (i + 1) y l S (by simpa using hy) (by rw [show k + (i + 1) = k + 1 + i by omega]; exact hp)
        rw [show k + (i + 1) + 1 = k + 1 + i + 1 by omega] at this
        exact this
      obtain ⟨f', l', S', e3, q1⟩ := ih
      refine ⟨f', l', S', ?_, by rw [List.length_cons, show k + (xs.length + 1) = k + 1 + xs.length by omega]; exact q1⟩
      unfold forX
      rw [e1]; show (b l1 S1).bind _ = _; rw [e2]
      rcases hf with rfl | rfl <;> exact e3
    · refine ⟨_, l2, S2, ?_, .inr ⟨d, rfl, hd⟩⟩
      unfold forX
      rw [e1]; show (b l1 S1).bind _ = _; rw [e2]; rfl
theorem ws_rng (P : Nat → Lo → Sto → Prop) (O : D → Sto → Prop) {as : AM} {l : Lo} {S S1 : Sto} {n : Nat} {QS : Fl → Lo → Sto → Prop} (h : as l S = some ([.int (n : Int)], S1)) (hn : n < 1000000000) (h0 : P 0 l S1)
    (step : ∀ (i : Nat) l S, i < n → P i l S → Wg (g (.int i) l S) fun l1 S1 => Ws b l1 S1 fun f l2 S2 => ((f = .nx ∨ f = .ct) ∧ P (i + 1) l2 S2) ∨ ∃ d, f = .rt d ∧ O d S2)
    (fin : ∀ l' S', P n l' S' → QS .nx l' S') (out : ∀ d l' S', O d S' → QS (.rt d) l' S') : Ws (sForR (rng1 as) g b) l S QS := by
  rw [ws_forR]
  refine ⟨_, _, h, (n : Int), rfl, ⟨by omega, by omega⟩, ?_⟩
  rw [Int.toNat_natCast]
  refine (forX_out P O (rngD 0 n) 0 l S1 h0 ?_).mono ?_
  · intro i x l S hx hp
    obtain ⟨hi, rfl⟩ := rngD_get hx
    rw [Nat.zero_add] at hp
    have := step i l S hi hp
    rw [Int.zero_add, Nat.zero_add]
    exact this
  · rintro f l' S' (⟨rfl, hp⟩ | ⟨d, rfl, hd⟩)
    · rw [rngD_len, Nat.zero_add] at hp; exact fin l' S' hp
    · exact out d l' S' hd
end
end L3
set_option Elab.async false
set_option maxHeartbeats 4000000
set_option maxRecDepth 100000
namespace L3
open PySem
section
variable {S : Sto} {Q : D → Sto → Prop} {l : Lo}
theorem wo_plusAI {i j : Int} : Wo (dPlusA (.int i) (.int j) S) Q = Q (.int (i + j)) S := wo_some
theorem wo_plusAT {xs ys : List D} : Wo (dPlusA (.tup xs) (.tup ys) S) Q = (xs.length + ys.length ≤ sizeLine ∧ Q (.tup (xs ++ ys)) S) := wo_ite
theorem wo_intAB {k : Bool} : Wo (fIntA [.bl k] S) Q = Q (.int (if k then 1 else 0)) S := wo_some
def Wp (o : OM) (l : Lo) (S : Sto) (Q : Option Int → Sto → Prop) : Prop := ∃ v S', o l S = some (v, S') ∧ Q v S'
theorem wp_none {Q : Option Int → Sto → Prop} : Wp oNone l S Q = Q none S := by
  apply propext
  exact ⟨fun ⟨v, S', h, q⟩ => by cases h; exact q, fun q => ⟨_, _, rfl, q⟩⟩
theorem wp_some {e : EM} {Q : Option Int → Sto → Prop} : Wp (oSome e) l S Q = We e l S fun x S1 => ∃ i, x = .int i ∧ Q (some i) S1 := by
  apply propext
  constructor
  · rintro ⟨v, S', h, q⟩
    obtain ⟨⟨x, S1⟩, h1, h⟩ := bnd h
    refine ⟨x, S1, h1, ?_⟩
    cases x with
    | int i => cases h; exact ⟨i, rfl, q⟩
    | _ => cases h
  · rintro ⟨x, S1, h1, i, rfl, q⟩
    exact ⟨_, S1, by unfold oSome; rw [h1]; rfl, q⟩
theorem ex_int1 {b : Int} {p : Int → Prop} : (∃ k, D.int b = D.int k ∧ p k) = p b := by
  apply propext; constructor
  · rintro ⟨d, h, q⟩; cases h; exact q
  · exact fun q => ⟨b, rfl, q⟩
def slA (x : D) (a b : Option Int) (S : Sto) : Option (D × Sto) := match x with
  | .tup xs => some (.tup (cutD xs a b), S)
  | .ref n => (lstOf S n).bind fun xs => some (.ref S.length, S ++ [.lst (cutD xs a b)])
  | .str z => if z.length ≤ sizeLine then some (.str (Txt.slice z a b), S) else none
  | _ => none
theorem we_slA {m : EM} {lo hi : OM} : We (eSlA m lo hi) l S Q = We m l S fun x S1 => Wp lo l S1 fun a S2 => Wp hi l S2 fun b S3 => Wo (slA x a b S3) Q := by
  apply propext
  constructor
  · rintro ⟨v, S', h, q⟩
    obtain ⟨⟨x, S1⟩, h1, h⟩ := bnd h
    obtain ⟨⟨a, S2⟩, h2, h⟩ := bnd h
    obtain ⟨⟨b, S3⟩, h3, h⟩ := bnd h
    exact ⟨x, S1, h1, a, S2, h2, b, S3, h3, v, S', h, q⟩
  · rintro ⟨x, S1, h1, a, S2, h2, b, S3, h3, v, S', h, q⟩
    refine ⟨v, S', ?_, q⟩
    unfold eSlA; rw [h1]; show (lo l S1).bind _ = _; rw [h2]; show (hi l S2).bind _ = _; rw [h3]; exact h
theorem wo_slT {xs : List D} {a b : Option Int} : Wo (slA (.tup xs) a b S) Q = Q (.tup (cutD xs a b)) S := wo_some
end
section
variable {it : ItM} {im : IM} {g : GM} {b : SM}
theorem forL_out {n : Nat} (xs : List D) (P : Nat → Lo → Sto → Prop) (O : D → Sto → Prop) (hit : ∀ i l S, P i l S → lstOf S n = some xs)
    (step : ∀ (i : Nat) x l S, xs[i]? = some x → P i l S → Wg (g x l S) fun l1 S1 => Ws b l1 S1 fun f l2 S2 => ((f = .nx ∨ f = .ct) ∧ P (i + 1) l2 S2) ∨ ∃ d, f = .rt d ∧ O d S2) :
    ∀ (k i : Nat) (l : Lo) (S : Sto), k + i = xs.length → P i l S → Wr (forL g b n (k + 1) i l S) fun f l' S' => (f = .nx ∧ P xs.length l' S') ∨ ∃ d, f = .rt d ∧ O d S'
  | 0, i, l, S, hn, h => by
    have hi : i = xs.length := by omega
    refine ⟨.nx, l, S, ?_, .inl ⟨rfl, by rw [← hi]; exact h⟩⟩
    unfold forL; rw [hit i l S h]; simp only [Option.bind_some]; rw [List.getElem?_eq_none_iff.mpr (by omega)]
  | k + 1, i, l, S, hn, h => by
    have hi : i < xs.length := by omega
    obtain ⟨l1, S1, e1, f, l2, S2, e2, q⟩ := step i _ l S (List.getElem?_eq_getElem hi) h
    rcases q with ⟨hf, h1⟩ | ⟨d, rfl, hd⟩
    · obtain ⟨f', l', S', e3, q1⟩ := forL_out xs P O hit step k (i + 1) l2 S2 (by omega) h1
      refine ⟨f', l', S', ?_, q1⟩
      unfold forL; rw [hit i l S h]; simp only [Option.bind_some]; rw [List.getElem?_eq_getElem hi]; show (g _ l S).bind _ = _; rw [e1]; show (b l1 S1).bind _ = _; rw [e2]
      rcases hf with rfl | rfl <;> exact e3
    · refine ⟨_, l2, S2, ?_, .inr ⟨d, rfl, hd⟩⟩
      unfold forL; rw [hit i l S h]; simp only [Option.bind_some]; rw [List.getElem?_eq_getElem hi]; show (g _ l S).bind _ = _; rw [e1]; show (b l1 S1).bind _ = _; rw [e2]; rfl
theorem ws_forLst {e : EM} {n : Nat} (xs : List D) (P : Nat → Lo → Sto → Prop) (O : D → Sto → Prop) {l : Lo} {S S1 : Sto} {QS : Fl → Lo → Sto → Prop} (he : e l S = some (.ref n, S1)) (h0 : P 0 l S1) (hit : ∀ i l S, P i l S → lstOf S n = some xs)
    (step : ∀ (i : Nat) x l S, xs[i]? = some x → P i l S → Wg (g x l S) fun l1 S1 => Ws b l1 S1 fun f l2 S2 => ((f = .nx ∨ f = .ct) ∧ P (i + 1) l2 S2) ∨ ∃ d, f = .rt d ∧ O d S2)
    (fin : ∀ l' S', P xs.length l' S' → QS .nx l' S') (out : ∀ d l' S', O d S' → QS (.rt d) l' S') : Ws (sFor e g b) l S QS := by
  rw [ws_forT]
  refine ⟨_, _, he, ?_⟩
  simp only
  rw [hit 0 l S1 h0]; simp only [Option.bind_some]
  refine (forL_out xs P O hit step xs.length 0 l S1 rfl h0).mono ?_
  rintro f l' S' (⟨rfl, hp⟩ | ⟨d, rfl, hd⟩)
  · exact fin l' S' hp
  · exact out d l' S' hd
end
end L3
set_option Elab.async false
set_option maxHeartbeats 4000000
set_option maxRecDepth 100000
namespace L3
open PySem
theorem sum_le (B : Nat) : ∀ ts : List Str, (∀ t ∈ ts, t.length ≤ B) → (ts.map (·.length)).sum ≤ B * ts.length
  | [], _ => Nat.zero_le _
  | t :: ts, h => by
    have h1 := h t List.mem_cons_self
    have h2 := sum_le B ts fun x hx => h x (List.mem_cons_of_mem _ hx)
    simp only [List.map_cons, List.sum_cons, List.length_cons]
    rw [Nat.mul_add]; omega
theorem shownAll_map (xs : List PyData) : PyData.shownAll xs = xs.map PyData.shown := by
  induction xs with
  | nil => rfl
  | cons x xs ih => unfold PyData.shownAll; rw [ih]; rfl
theorem tup_len (B : Nat) (xs : List PyData) (h : ∀ x ∈ xs, x.shown.length ≤ B) : (PyData.tuple xs).shown.length ≤ B * xs.length + 2 * xs.length + 3 := by
  show (tupleText (PyData.shownAll xs)).length ≤ _
  rw [shownAll_map]
  have h1 := tupleText_len_le (xs.map PyData.shown)
  have h2 := sum_le B (xs.map PyData.shown) fun t ht => by
    obtain ⟨p, hp, rfl⟩ := List.mem_map.mp ht
    exact h p hp
  simp only [List.length_map] at h1 h2
  omega
def Sh (S : Sto) (k B : Nat) (d : D) : Prop := ∃ p : PyData, p.shown.length ≤ B ∧ ∀ S', Gr S S' → pyOf S' k d = some p
theorem Sh.le {S : Sto} {k B B' : Nat} {d : D} (h : Sh S k B d) (hb : B ≤ B') : Sh S k B' d := let ⟨p, h1, h2⟩ := h; ⟨p, Nat.le_trans h1 hb, h2⟩
theorem sh_all {S : Sto} {k B : Nat} : ∀ (xs : List D), (∀ x ∈ xs, Sh S k B x) → ∃ ps : List PyData, ps.length = xs.length ∧ (∀ p ∈ ps, p.shown.length ≤ B) ∧ ∀ S', Gr S S' → pyAll S' k xs = some ps
  | [], _ => ⟨[], rfl, (fun p hp => by cases hp), fun ex _ => by unfold pyAll; rfl⟩
  | x :: xs, h => by
    obtain ⟨p, h1, h2⟩ := h x List.mem_cons_self
    obtain ⟨ps, h3, h4, h5⟩ := sh_all xs fun y hy => h y (List.mem_cons_of_mem _ hy)
    refine ⟨p :: ps, by simp [h3], fun q hq => ?_, fun ex g => ?_⟩
    · rcases List.mem_cons.mp hq with rfl | hq
      · exact h1
      · exact h4 q hq
    · unfold pyAll; rw [h2 ex g, h5 ex g]; rfl
theorem sh_tup {S : Sto} {k B n : Nat} {xs : List D} (h : ∀ x ∈ xs, Sh S k B x) (hn : xs.length ≤ n) : Sh S (k + 1) (B * n + 2 * n + 3) (.tup xs) := by
  obtain ⟨ps, h1, h2, h3⟩ := sh_all xs h
  refine ⟨.tuple ps, ?_, fun ex g => ?_⟩
  · have := tup_len B ps h2
    rw [h1] at this
    have h4 : B * xs.length ≤ B * n := Nat.mul_le_mul_left _ hn
    omega
  · unfold pyOf; rw [h3 ex g]; rfl
theorem small_log2 {n : Nat} (h : n < 1000000) : ((n : Nat) : Int).natAbs.log2 < 1920 := by
  by_cases hz : n = 0
  · subst hz; decide
  · have h1 : ((n : Nat) : Int).natAbs = n := by omega
    rw [h1]
    have h2 : n.log2 < 20 := (Nat.log2_lt hz).mpr (Nat.lt_of_lt_of_le h (by decide))
    omega
theorem sh_nat {S : Sto} {k n : Nat} (h : n < 1000000) : Sh S (k + 1) 10 (.int n) := by
  refine ⟨.int n, ?_, fun ex _ => by unfold pyOf; rw [if_pos (small_log2 h)]⟩
  show (PySem.Str.ofString (toString (n : Int))).length ≤ 10
  exact PySem.W.KT.len_num (by omega) (by omega)
theorem sh_non {S : Sto} {k : Nat} : Sh S (k + 1) 10 .non := ⟨.none, by decide +kernel, fun ex _ => by unfold pyOf; rfl⟩
theorem wo_repr_of {S : Sto} {x : D} {p : PyData} {Q : D → Sto → Prop} (h : pyOf S 140 x = some p) (hz : p.shown.length ≤ sizeLine) : Wo (fRepr [x] S) Q = Q (.str p.shown) S := by
  rw [wo_repr, h]
  apply propext
  constructor
  · rintro ⟨pd, e, _, q⟩; cases e; exact q
  · intro q; exact ⟨p, rfl, hz, q⟩
end L3
set_option Elab.async false
set_option maxHeartbeats 4000000
set_option maxRecDepth 100000
namespace L3
open PySem
section
variable {l : Lo} {S : Sto} {Q : D → Sto → Prop} {QG : Lo → Sto → Prop} {a b c : EM}
theorem we_fnc {x : Str} : We (eFnc x) l S Q = Q (.ref S.length) (S ++ [.fnc x]) := by
  apply propext
  exact ⟨fun ⟨v, S', h, q⟩ => by cases h; exact q, fun q => ⟨_, _, rfl, q⟩⟩
theorem we_dictT : We eDictT l S Q = Q (.ref S.length) (S ++ [.tdct []]) := by
  apply propext
  exact ⟨fun ⟨v, S', h, q⟩ => by cases h; exact q, fun q => ⟨_, _, rfl, q⟩⟩
theorem we_callV {tab : List (Str × FM)} {as : AM} : We (eCallV tab a as) l S Q = We a l S fun v S1 => ∃ x, fncOf S1 v = some x ∧ ∃ m, tab.lookup x = some m ∧ Wa as l S1 fun ys S2 => Wo (m ys S2) Q := by
  apply propext
  constructor
  · rintro ⟨v, S', h, q⟩
    obtain ⟨⟨x, S1⟩, h1, h⟩ := bnd h
    obtain ⟨n, h2, h⟩ := bnd h
    obtain ⟨m, h3, h⟩ := bnd h
    obtain ⟨⟨ys, S2⟩, h4, h⟩ := bnd h
    exact ⟨x, S1, h1, n, h2, m, h3, ys, S2, h4, v, S', h, q⟩
  · rintro ⟨x, S1, h1, n, h2, m, h3, ys, S2, h4, v, S', h, q⟩
    refine ⟨v, S', ?_, q⟩
    unfold eCallV; rw [h1]; show (fncOf S1 x).bind _ = _; rw [h2]; show (tab.lookup n).bind _ = _; rw [h3]; show (as l S1).bind _ = _; rw [h4]; exact h
theorem we_get1 : We (eGet1 a b) l S Q = We a l S fun x S1 => isDc S1 x = some () ∧ We b l S1 fun y S2 => ∃ r, dRd S2 x y = some r ∧ Q (r.getD .non) S2 := by
  apply propext
  constructor
  · rintro ⟨v, S', h, q⟩
    obtain ⟨⟨x, S1⟩, h1, h⟩ := bnd h
    obtain ⟨_, h2, h⟩ := bnd h
    obtain ⟨⟨y, S2⟩, h3, h⟩ := bnd h
    obtain ⟨r, h4, h⟩ := bnd h
    cases h
    exact ⟨x, S1, h1, h2, y, _, h3, r, h4, q⟩
  · rintro ⟨x, S1, h1, h2, y, S2, h3, r, h4, q⟩
    refine ⟨_, _, ?_, q⟩
    unfold eGet1; rw [h1]; show (isDc S1 x).bind _ = _; rw [h2]; show (b l S1).bind _ = _; rw [h3]; show (dRd S2 x y).bind _ = _; rw [h4]; rfl
theorem we_get2 : We (eGet2 a b c) l S Q = We a l S fun x S1 => isDc S1 x = some () ∧ We b l S1 fun y S2 => We c l S2 fun z S3 => ∃ r, dRd S3 x y = some r ∧ Q (r.getD z) S3 := by
  apply propext
  constructor
  · rintro ⟨v, S', h, q⟩
    obtain ⟨⟨x, S1⟩, h1, h⟩ := bnd h
    obtain ⟨_, h2, h⟩ := bnd h
    obtain ⟨⟨y, S2⟩, h3, h⟩ := bnd h
    obtain ⟨⟨z, S3⟩, h5, h⟩ := bnd h
    obtain ⟨r, h4, h⟩ := bnd h
    cases h
    exact ⟨x, S1, h1, h2, y, S2, h3, z, _, h5, r, h4, q⟩
  · rintro ⟨x, S1, h1, h2, y, S2, h3, z, S3, h5, r, h4, q⟩
    refine ⟨_, _, ?_, q⟩
    unfold eGet2; rw [h1]; show (isDc S1 x).bind _ = _; rw [h2]; show (b l S1).bind _ = _; rw [h3]; show (c l S2).bind _ = _; rw [h5]; show (dRd S3 x y).bind _ = _; rw [h4]; rfl
theorem wo_getX {x y : D} : Wo (dGetX x y S) Q = ∃ v, dRd S x y = some (some v) ∧ Q v S := by
  unfold dGetX
  rw [wo_bind]
  apply propext
  constructor
  · rintro ⟨o, h, q⟩
    rw [wo_bind] at q
    obtain ⟨v, rfl, q⟩ := q
    rw [wo_some] at q
    exact ⟨v, h, q⟩
  · rintro ⟨v, h, q⟩
    exact ⟨_, h, by rw [wo_bind]; exact ⟨v, rfl, by rw [wo_some]; exact q⟩⟩
theorem wo_inX {neg : Bool} {x y : D} : Wo (dInX neg y x S) Q = ∃ o, dRd S x y = some o ∧ Q (.bl (if neg then !o.isSome else o.isSome)) S := by
  unfold dInX
  rw [wo_bind]; simp only [wo_some]
theorem wo_inT {neg : Bool} {ds : List D} {n : Nat} {ks : List (List Int)} {k : List Int} (h : S[n]? = some (.tset ks)) (hk : intsD ds = some k) : Wo (dInT neg (.tup ds) (.ref n) S) Q = Q (.bl (if neg then !decide (k ∈ ks) else decide (k ∈ ks))) S := by
  have : dInT neg (.tup ds) (.ref n) S = some (.bl (if neg then !decide (k ∈ ks) else decide (k ∈ ks)), S) := by
    unfold dInT; dsimp only; rw [h]; dsimp only; rw [hk]; rfl
  rw [this]; exact wo_some
theorem wo_addT {ds : List D} {n : Nat} {ks : List (List Int)} {k : List Int} (h : S[n]? = some (.tset ks)) (hk : intsD ds = some k) (hz : ks.length < 1000) (hn : k ∉ ks) : Wo (mAddT (.ref n) [.tup ds] S) Q = Q .non (S.set n (.tset (ks ++ [k]))) := by
  have : mAddT (.ref n) [.tup ds] S = some (.non, S.set n (.tset (ks ++ [k]))) := by
    unfold mAddT; dsimp only; rw [h]; dsimp only; rw [hk]; show (if _ then _ else _) = _; rw [if_pos hz, if_neg hn]
  rw [this]; exact wo_some
theorem isTs_ok {n : Nat} {ks : List (List Int)} (h : S[n]? = some (.tset ks)) : isTs S (.ref n) = some () := by unfold isTs; dsimp only; rw [h]
theorem we_methT {f : D → List D → Sto → Option (D × Sto)} {r : AM} : We (eMethT f a r) l S Q = We a l S fun x S1 => isTs S1 x = some () ∧ Wa r l S1 fun ys S2 => Wo (f x ys S2) Q := by
  apply propext
  constructor
  · rintro ⟨v, S', h, q⟩
    obtain ⟨⟨x, S1⟩, h1, h⟩ := bnd h
    obtain ⟨_, h2, h⟩ := bnd h
    obtain ⟨⟨y, S2⟩, h3, h⟩ := bnd h
    exact ⟨x, S1, h1, h2, y, S2, h3, v, S', h, q⟩
  · rintro ⟨x, S1, h1, h2, y, S2, h3, v, S', h, q⟩
    refine ⟨_, _, ?_, q⟩
    unfold eMethT; rw [h1]; show (isTs S1 x).bind _ = _; rw [h2]; show (r l S1).bind _ = _; rw [h3]; exact h
theorem we_setV {i : Nat} {ds : List D} {k : List Int} (h : l[i]? = some (some (.tup ds))) (hk : intsD ds = some k) : We (eSetT (eVar i)) l S Q = Q (.ref S.length) (S ++ [.tset [k]]) := by
  have : eSetT (eVar i) l S = some (.ref S.length, S ++ [.tset [k]]) := by
    unfold eSetT eVar
    rw [h]
    show (intsD ds).bind _ = _
    rw [hk]
    show (match (S ++ [Ob.tset []])[S.length]? with | some (.tset []) => _ | _ => none) = _
    rw [get_self]
    show some (_, (S ++ [Ob.tset []]).set S.length (.tset [k])) = _
    rw [set_last]
  apply propext
  constructor
  · rintro ⟨v, S', e, q⟩; rw [this] at e; cases e; exact q
  · exact fun q => ⟨_, _, this, q⟩
theorem wg_putX {o i : EM} {v : D} : Wg (gPutX o i v l S) QG = We o l S fun x S1 => We i l S1 fun y S2 => ∃ S', putX x y v S2 = some S' ∧ QG l S' := by
  apply propext
  constructor
  · rintro ⟨l', S', h, q⟩
    obtain ⟨⟨x, S1⟩, h1, h⟩ := bnd h
    obtain ⟨⟨y, S2⟩, h2, h⟩ := bnd h
    obtain ⟨S3, h3, h⟩ := bnd h
    cases h
    exact ⟨x, S1, h1, y, S2, h2, _, h3, q⟩
  · rintro ⟨x, S1, h1, y, S2, h2, S3, h3, q⟩
    refine ⟨l, S3, ?_, q⟩
    unfold gPutX; rw [h1]; show (i l S1).bind _ = _; rw [h2]; show (putX x y v S2).bind _ = _; rw [h3]; rfl
theorem putT_ok {n : Nat} {kvs : List (List L2.Key × D)} {y v : D} {k : List L2.Key} (h : S[n]? = some (.tdct kvs)) (hk : tKey y = some k) (hz : kvs.length < sizeLine) : putX (.ref n) y v S = some (S.set n (.tdct (tvPut kvs k v))) := by
  unfold putX; dsimp only; rw [h]; dsimp only; rw [hk]; show (if _ then _ else _) = _; rw [if_pos hz]
theorem dRdT {n : Nat} {kvs : List (List L2.Key × D)} {y : D} {k : List L2.Key} (h : S[n]? = some (.tdct kvs)) (hk : tKey y = some k) : dRd S (.ref n) y = some (tvGet kvs k) := by
  unfold dRd; dsimp only; rw [h]; dsimp only; rw [hk]; rfl
theorem isDcT {n : Nat} {kvs : List (List L2.Key × D)} (h : S[n]? = some (.tdct kvs)) : isDc S (.ref n) = some () := by unfold isDc; dsimp only; rw [h]
end
theorem whl_out {c : TM} {b : SM} (I : Nat → Lo → Sto → Prop) (O : D → Sto → Prop) (Q : Lo → Sto → Prop)
    (step : ∀ m l S, I m l S → Wt c l S fun k S1 => if k = true then Ws b l S1 fun f l2 S2 => ((f = .nx ∨ f = .ct) ∧ ∃ m', m' < m ∧ I m' l2 S2) ∨ ∃ d, f = .rt d ∧ O d S2 else Q l S1) :
    ∀ (fuel m : Nat), m < fuel → ∀ l S, I m l S → Wr (whl c b fuel l S) fun f l' S' => (f = .nx ∧ Q l' S') ∨ ∃ d, f = .rt d ∧ O d S'
  | 0, m, h, _, _, _ => absurd h (Nat.not_lt_zero _)
  | fuel + 1, m, h, l, S, hi => by
    obtain ⟨k, S1, e1, h1⟩ := step m l S hi
    cases k with
    | false => exact ⟨.nx, l, S1, by unfold whl; rw [e1]; rfl, .inl ⟨rfl, h1⟩⟩
    | true =>
      have h1 : Ws b l S1 fun f l2 S2 => ((f = .nx ∨ f = .ct) ∧ ∃ m', m' < m ∧ I m' l2 S2) ∨ ∃ d, f = .rt d ∧ O d S2 := h1
      obtain ⟨f, l2, S2, e2, q⟩ := h1
      rcases q with ⟨hf, m', hm, hi2⟩ | ⟨d, rfl, hd⟩
      · obtain ⟨f', l', S', e3, q⟩ := whl_out I O Q step fuel m' (by omega) l2 S2 hi2
        refine ⟨f', l', S', ?_, q⟩
        unfold whl; rw [e1]; show (b l S1).bind _ = _; rw [e2]
        rcases hf with rfl | rfl <;> exact e3
      · refine ⟨_, l2, S2, ?_, .inr ⟨d, rfl, hd⟩⟩
        unfold whl; rw [e1]; show (b l S1).bind _ = _; rw [e2]; rfl
theorem ws_whl {c : TM} {b : SM} (I : Nat → Lo → Sto → Prop) (O : D → Sto → Prop) (Q : Lo → Sto → Prop) {l : Lo} {S : Sto} {QS : Fl → Lo → Sto → Prop} (m : Nat) (hm : m < 1000000) (h0 : I m l S)
    (step : ∀ m l S, I m l S → Wt c l S fun k S1 => if k = true then Ws b l S1 fun f l2 S2 => ((f = .nx ∨ f = .ct) ∧ ∃ m', m' < m ∧ I m' l2 S2) ∨ ∃ d, f = .rt d ∧ O d S2 else Q l S1)
    (fin : ∀ l' S', Q l' S' → QS .nx l' S') (out : ∀ d l' S', O d S' → QS (.rt d) l' S') : Ws (whl c b FUEL) l S QS := by
  refine Wr.mono (whl_out I O Q step FUEL m hm l S h0) ?_
  rintro f l' S' (⟨rfl, h⟩ | ⟨d, rfl, h⟩)
  · exact fin l' S' h
  · exact out d l' S' h
theorem ws_cutO {m n : SM} {l : Lo} {S : Sto} {QS : Fl → Lo → Sto → Prop} (R : Lo → Sto → Prop) (O : D → Sto → Prop) (h1 : Ws m l S fun f l1 S1 => (f = .nx ∧ R l1 S1) ∨ ∃ d, f = .rt d ∧ O d S1) (h2 : ∀ l1 S1, R l1 S1 → Ws n l1 S1 QS) (h3 : ∀ d l1 S1, O d S1 → QS (.rt d) l1 S1) : Ws (sSeq m n) l S QS := by
  rw [ws_seq]
  obtain ⟨f, l1, S1, e, q⟩ := h1
  rcases q with ⟨rfl, r⟩ | ⟨d, rfl, o⟩
  · exact ⟨_, _, _, e, h2 l1 S1 r⟩
  · exact ⟨_, _, _, e, h3 d l1 S1 o⟩
theorem Gr.len {A B : Sto} (h : Gr A B) : A.length ≤ B.length := by obtain ⟨x, rfl⟩ := h; rw [List.length_append]; omega
theorem Gr.set {A B : Sto} {r : Nat} (h : Gr A B) (hr : A.length ≤ r) (o : Ob) : Gr A (B.set r o) := by
  obtain ⟨x, rfl⟩ := h
  exact ⟨x.set (r - A.length) o, by rw [List.set_append_right _ _ hr]⟩
theorem lstOf_of {S : Sto} {n : Nat} {xs : List D} (h : S[n]? = some (.lst xs)) : lstOf S n = some xs := by unfold lstOf; rw [h]
theorem get_new {S : Sto} {o : Ob} : (S ++ [o])[S.length]? = some o := get_self S o
theorem get_old {S : Sto} {n : Nat} {o o' : Ob} (h : S[n]? = some o) : (S ++ [o'])[n]? = some o := by
  rw [List.getElem?_append_left (List.getElem?_eq_some_iff.mp h).1]; exact h
theorem get_set {S : Sto} {n : Nat} {o o' : Ob} (h : S[n]? = some o) : (S.set n o')[n]? = some o' := List.getElem?_set_self (List.getElem?_eq_some_iff.mp h).1
theorem get_set_ne {S : Sto} {n m : Nat} {o o' : Ob} (h : S[m]? = some o) (hn : n ≠ m) : (S.set n o')[m]? = some o := by rw [List.getElem?_set_ne hn]; exact h
theorem wo_app {S : Sto} {n : Nat} {xs : List D} {x : D} {Q : D → Sto → Prop} (h : S[n]? = some (.lst xs)) (hz : xs.length < sizeLine) : Wo (mAppend (.ref n) [x] S) Q = Q .non (S.set n (.lst (xs ++ [x]))) := by
  rw [wo_append, h]
  apply propext
  constructor
  · rintro ⟨ys, e, _, q⟩; cases e; exact q
  · exact fun q => ⟨xs, rfl, hz, q⟩
theorem recvL_of {S : Sto} {n : Nat} {xs : List D} (h : S[n]? = some (.lst xs)) : recvL (.ref n) S = some xs := lstOf_of h
end L3
section
namespace G
open PySem PySem.Spec PyProof.Rows L2 L3
abbrev bd : List Stmt := PySem.Challenge.pw_opencells_k06_rows_that_part.main.body
def b_answers_unlike : SM := sRet (eAnd3 (eOp dIsNot (eVar 0) (eC .non)) (eAnd3 (eOp dIsNot (eVar 1) (eC .non)) (eOp dNe (eVar 0) (eVar 1))))
def m_answers_unlike : FM := runB 2 b_answers_unlike
def b_say_unlike : SM := sRet (eCall m_answers_unlike (aCons (eOp dIxA (eVar 0) (eC (.int 1))) (aCons (eOp dIxA (eVar 1) (eC (.int 1))) (aNil))))
def m_say_unlike : FM := runB 2 b_say_unlike
def b_walk_both : SM := sSeq (sAsg (eCall fLst (aCons (eVar 2) (aNil))) (gName3 4)) (sSeq (sAsg (eCall fLst (aCons (eCall fTup (aNil)) (aNil))) (gName3 5)) (sSeq (sAsg (eSetT (eVar 2)) (gName3 6)) (sSeq (sAsg (eC (.int 0)) (gName3 7)) (sSeq (whl (tE (eOp dLt (eVar 7) (eCall fLenA (aCons (eVar 4) (aNil))))) (sSeq (sAsg (eOp dIxA (eVar 4) (eVar 7)) (gTup3 2 (gCons3 (gName3 8) (gCons3 (gName3 9) (gNil3))))) (sSeq (sAsg (eOp dIxA (eVar 5) (eVar 7)) (gName3 10)) (sSeq (sAsg (eOp dAdd (eVar 7) (eC (.int 1))) (gName3 7)) (sForR (rng1 (aCons (eOp dIxA (eVar 0) (eC (.int 0))) (aNil))) (gName3 11) (sSeq (sAsg (eOp dIxA (eOp dIxA (eOp dIxA (eVar 0) (eC (.int 1))) (eVar 8)) (eVar 11)) (gName3 12)) (sSeq (sAsg (eOp dIxA (eOp dIxA (eOp dIxA (eVar 1) (eC (.int 1))) (eVar 9)) (eVar 11)) (gName3 13)) (sSeq (sIf (tE (eCallV [("say_unlike", m_say_unlike)] (eVar 3) (aCons (eVar 12) (aCons (eVar 13) (aNil))))) (sRet (eCall fTup (aCons (eOp dPlusA (eVar 10) (eCall fTup (aCons (eVar 11) (aNil)))) (aCons (eVar 4) (aNil))))) (sNext)) (sSeq (sAsg (eCall fTup (aCons (eOp dIxA (eVar 12) (eC (.int 0))) (aCons (eOp dIxA (eVar 13) (eC (.int 0))) (aNil)))) (gName3 14)) (sIf (tAnd3 (tE (eOp (dIn true) (eC .non) (eVar 14))) (tE (eOp (dInT true) (eVar 14) (eVar 6)))) (sSeq (sDrop (eMethT mAddT (eVar 6) (aCons (eVar 14) aNil))) (sSeq (sDrop (eMethL mAppend (eVar 4) (aCons (eVar 14) aNil))) (sDrop (eMethL mAppend (eVar 5) (aCons (eOp dPlusA (eVar 10) (eCall fTup (aCons (eVar 11) (aNil)))) aNil))))) (sNext)))))))))) FUEL) (sRet (eCall fTup (aCons (eC .non) (aCons (eVar 4) (aNil)))))))))
def m_walk_both : FM := runB 15 b_walk_both
def b_parting : SM := sRet (eOp dIxA (eCall m_walk_both (aCons (eVar 0) (aCons (eVar 0) (aCons (eCall fTup (aCons (eVar 1) (aCons (eVar 2) (aNil)))) (aCons (eFnc "say_unlike") (aNil)))))) (eC (.int 0)))
def m_parting : FM := runB 3 b_parting
def b_law_unlike : SM := sSeq (sAsg (eOp dIxA (eOp dIxA (eOp dIxA (eOp dIxA (eVar 0) (eC (.int 1))) (eVar 1)) (eVar 3)) (eC (.int 1))) (gName3 4)) (sSeq (sAsg (eOp dIxA (eOp dIxA (eOp dIxA (eOp dIxA (eVar 0) (eC (.int 1))) (eVar 2)) (eVar 3)) (eC (.int 1))) (gName3 5)) (sRet (eAnd3 (eOp dIsNot (eVar 4) (eC .non)) (eAnd3 (eOp dIsNot (eVar 5) (eC .non)) (eOp dNe (eVar 4) (eVar 5))))))
def m_law_unlike : FM := runB 6 b_law_unlike
def b_law_both : SM := sSeq (sAsg (eCall fTup (aCons (eOp dIxA (eOp dIxA (eOp dIxA (eOp dIxA (eVar 0) (eC (.int 1))) (eVar 1)) (eVar 3)) (eC (.int 0))) (aCons (eOp dIxA (eOp dIxA (eOp dIxA (eOp dIxA (eVar 0) (eC (.int 1))) (eVar 2)) (eVar 3)) (eC (.int 0))) (aNil)))) (gName3 4)) (sSeq (sIf (tE (eOp (dIn false) (eC .non) (eVar 4))) (sRet (eC .non)) (sNext)) (sRet (eVar 4)))
def m_law_both : FM := runB 5 b_law_both
def b_law_first : SM := sSeq (sIf (tE (eOp (dInX true) (eCall fTup (aCons (eVar 2) (aCons (eVar 3) (aNil)))) (eVar 1))) (sRet (eC .non)) (sNext)) (sSeq (sAsg (eCall fTup (aNil)) (gName3 4)) (sSeq (whl (tE (eOp dGt (eOp dGetX (eVar 1) (eCall fTup (aCons (eVar 2) (aCons (eVar 3) (aNil))))) (eC (.int 1)))) (sSeq (sAsg (eCall fLst (aNil)) (gName3 5)) (sSeq (sForR (rng1 (aCons (eOp dIxA (eVar 0) (eC (.int 0))) (aNil))) (gName3 6) (sSeq (sAsg (eCall m_law_both (aCons (eVar 0) (aCons (eVar 2) (aCons (eVar 3) (aCons (eVar 6) (aNil)))))) (gName3 7)) (sIf (tAnd3 (tE (eOp dIsNot (eVar 7) (eC .non))) (tE (eOp dEq (eGet2 (eVar 1) (eVar 7) (eC (.int 0))) (eOp dSub (eOp dGetX (eVar 1) (eCall fTup (aCons (eVar 2) (aCons (eVar 3) (aNil))))) (eC (.int 1)))))) (sDrop (eMethL mAppend (eVar 5) (aCons (eVar 6) aNil))) (sNext)))) (sSeq (sAsg (eOp dPlusA (eVar 4) (eCall fTup (aCons (eOp dIxA (eVar 5) (eC (.int 0))) (aNil)))) (gName3 4)) (sAsg (eCall m_law_both (aCons (eVar 0) (aCons (eVar 2) (aCons (eVar 3) (aCons (eOp dIxA (eVar 5) (eC (.int 0))) (aNil)))))) (gTup3 2 (gCons3 (gName3 2) (gCons3 (gName3 3) (gNil3)))))))) FUEL) (sSeq (sAsg (eComp (iRng (rng1 (aCons (eOp dIxA (eVar 0) (eC (.int 0))) (aNil)))) [none, some 0, some 2, some 3] (gName3 0) (tE (eCall m_law_unlike (aCons (eVar 1) (aCons (eVar 2) (aCons (eVar 3) (aCons (eVar 0) (aNil))))))) (eVar 0)) (gName3 5)) (sRet (eOp dPlusA (eVar 4) (eCall fTup (aCons (eOp dIxA (eVar 5) (eC (.int 0))) (aNil))))))))
def m_law_first : FM := runB 8 b_law_first
def b_law_far : SM := sSeq (sAsg (eCall fLenA (aCons (eOp dIxA (eVar 0) (eC (.int 1))) (aNil))) (gName3 1)) (sSeq (sAsg (eComp (iRng (rng1 (aCons (eOp dTimes (eVar 1) (eVar 1)) (aNil)))) [none, some 1] (gName3 0) (tTrue) (eCall fTup (aCons (eOp dDiv (eVar 0) (eVar 1)) (aCons (eOp dMod (eVar 0) (eVar 1)) (aNil))))) (gName3 2)) (sSeq (sAsg (eDictT) (gName3 3)) (sSeq (sAsg (eCall fLst (aNil)) (gName3 4)) (sSeq (sFor (eVar 2) (gTup3 2 (gCons3 (gName3 5) (gCons3 (gName3 6) (gNil3)))) (sIf (tE (eCall fAny (aCons (eComp (iRng (rng1 (aCons (eOp dIxA (eVar 0) (eC (.int 0))) (aNil)))) [none, some 0, some 5, some 6] (gName3 0) (tTrue) (eCall m_law_unlike (aCons (eVar 1) (aCons (eVar 2) (aCons (eVar 3) (aCons (eVar 0) (aNil))))))) (aNil)))) (sDrop (eMethL mAppend (eVar 4) (aCons (eCall fTup (aCons (eVar 5) (aCons (eVar 6) (aNil)))) aNil))) (sNext))) (sSeq (sAsg (eC (.int 1)) (gName3 7)) (sSeq (whl (tE (eOp dNeNil (eVar 4) (eCall fLst (aNil)))) (sSeq (sFor (eVar 4) (gName3 8) (sAsg (eVar 7) (gPutX (eVar 3) (eVar 8)))) (sSeq (sAsg (eOp dPlusA (eVar 7) (eC (.int 1))) (gName3 7)) (sSeq (sAsg (eCall fLst (aNil)) (gName3 4)) (sFor (eVar 2) (gTup3 2 (gCons3 (gName3 5) (gCons3 (gName3 6) (gNil3)))) (sSeq (sAsg (eComp (iRng (rng1 (aCons (eOp dIxA (eVar 0) (eC (.int 0))) (aNil)))) [none, some 0, some 5, some 6] (gName3 0) (tTrue) (eCall m_law_both (aCons (eVar 1) (aCons (eVar 2) (aCons (eVar 3) (aCons (eVar 0) (aNil))))))) (gName3 9)) (sSeq (sAsg (eComp (iVal (eVar 9)) [none, some 3] (gName3 0) (tAnd3 (tE (eOp dIsNot (eVar 0) (eC .non))) (tE (eOp (dInX false) (eVar 0) (eVar 1)))) (eVar 0)) (gName3 10)) (sIf (tAnd3 (tE (eOp (dInX true) (eCall fTup (aCons (eVar 5) (aCons (eVar 6) (aNil)))) (eVar 3))) (tE (eOp dNeNil (eVar 10) (eCall fLst (aNil))))) (sDrop (eMethL mAppend (eVar 4) (aCons (eCall fTup (aCons (eVar 5) (aCons (eVar 6) (aNil)))) aNil))) (sNext)))))))) FUEL) (sRet (eVar 3))))))))
def m_law_far : FM := runB 11 b_law_far
def b_law_take : SM := sSeq (sIf (tE (eOp dGt (eOp dIxA (eVar 0) (eC (.int 2))) (eC (.int 0)))) (sSeq (sAsg (eOp dMod (eOp dIxA (eVar 0) (eC (.int 2))) (eVar 1)) (gName3 2)) (sSeq (sAsg (eOp dDiv (eOp dIxA (eVar 0) (eC (.int 2))) (eVar 1)) (gSub3 (eVar 0) (eC (.int 2)))) (sRet (eVar 2)))) (sNext)) (sSeq (sAsg (eOp dIxA (eVar 0) (eC (.int 1))) (gName3 3)) (sSeq (sAsg (eOp dPlusA (eVar 3) (eC (.int 1))) (gSub3 (eVar 0) (eC (.int 1)))) (sSeq (sAsg (eC (.int 7)) (gName3 4)) (sSeq (sIf (tE (eOp dGt (eCall fLenA (aCons (eOp dIxA (eVar 0) (eC (.int 0))) (aNil))) (eC (.int 0)))) (sAsg (eOp dIxA (eOp dIxA (eVar 0) (eC (.int 0))) (eOp dMod (eVar 3) (eCall fLenA (aCons (eOp dIxA (eVar 0) (eC (.int 0))) (aNil))))) (gName3 4)) (sNext)) (sSeq (sIf (tAnd3 (tE (eOp dLt (eVar 3) (eCall fLenA (aCons (eOp dIxA (eVar 0) (eC (.int 0))) (aNil))))) (tE (eOp dGe (eCall fAbs (aCons (eVar 4) (aNil))) (eOp dPow (eC (.int 10)) (eC (.int 18)))))) (sSeq (sAsg (eOp dDiv (eCall fAbs (aCons (eVar 4) (aNil))) (eVar 1)) (gSub3 (eVar 0) (eC (.int 2)))) (sRet (eOp dMod (eCall fAbs (aCons (eVar 4) (aNil))) (eVar 1)))) (sNext)) (sSeq (sAsg (eCall fLst (aCons (eC (.int 2147483647)) (aCons (eC (.int 2147483629)) (aCons (eC (.int 2147483587)) (aCons (eC (.int 2147483579)) (aCons (eC (.int 2147483563)) (aCons (eC (.int 2147483549)) (aCons (eC (.int 2147483543)) (aNil))))))))) (gName3 5)) (sSeq (sAsg (eOp dIxA (eVar 5) (eOp dMod (eVar 3) (eC (.int 7)))) (gName3 6)) (sSeq (sAsg (eOp dMod (eOp dPlusA (eOp dPlusA (eOp dTimes (eOp dMod (eVar 4) (eVar 6)) (eC (.int 48271))) (eOp dTimes (eC (.int 40009)) (eVar 3))) (eC (.int 21))) (eVar 6)) (gName3 7)) (sSeq (sAsg (eOp dMod (eOp dPlusA (eOp dPlusA (eOp dTimes (eOp dPow (eVar 7) (eC (.int 3))) (eC (.int 69621))) (eOp dTimes (eVar 3) (eVar 3))) (eC (.int 5))) (eOp dIxA (eVar 5) (eOp dMod (eOp dPlusA (eVar 3) (eC (.int 3))) (eC (.int 7))))) (gName3 7)) (sRet (eOp dMod (eOp dDiv (eVar 7) (eC (.int 64))) (eVar 1))))))))))))
def m_law_take : FM := runB 8 b_law_take
def b_law_near : SM := sSeq (sAsg (eCall fLst (aNil)) (gName3 4)) (sSeq (sFor (eVar 1) (gName3 5) (sSeq (sAsg (eCall m_law_take (aCons (eVar 0) (aCons (eC (.int 8)) (aNil)))) (gName3 6)) (sSeq (sAsg (eVar 5) (gTup3 2 (gCons3 (gName3 7) (gCons3 (gName3 8) (gNil3))))) (sSeq (sIf (tE (eOp dEq (eVar 6) (eC (.int 0)))) (sAsg (eC .non) (gName3 7)) (sNext)) (sSeq (sIf (tE (eOp dEq (eVar 6) (eC (.int 1)))) (sAsg (eC .non) (gName3 8)) (sNext)) (sSeq (sIf (tE (eOp dEq (eVar 6) (eC (.int 2)))) (sAsg (eCall m_law_take (aCons (eVar 0) (aCons (eVar 2) (aNil)))) (gName3 7)) (sNext)) (sSeq (sIf (tE (eOp dEq (eVar 6) (eC (.int 3)))) (sAsg (eCall m_law_take (aCons (eVar 0) (aCons (eVar 3) (aNil)))) (gName3 8)) (sNext)) (sDrop (eMethL mAppend (eVar 4) (aCons (eCall fTup (aCons (eVar 7) (aCons (eVar 8) (aNil)))) aNil)))))))))) (sRet (eCall fTuple (aCons (eVar 4) (aNil)))))
def m_law_near : FM := runB 9 b_law_near
def b_law_cell : SM := sSeq (sAsg (eC .non) (gName3 4)) (sSeq (sIf (tE (eOp dGe (eCall m_law_take (aCons (eVar 0) (aCons (eC (.int 8)) (aNil)))) (eVar 2))) (sAsg (eCall m_law_take (aCons (eVar 0) (aCons (eVar 1) (aNil)))) (gName3 4)) (sNext)) (sSeq (sAsg (eC .non) (gName3 5)) (sSeq (sIf (tE (eOp dGe (eCall m_law_take (aCons (eVar 0) (aCons (eC (.int 8)) (aNil)))) (eVar 2))) (sAsg (eCall m_law_take (aCons (eVar 0) (aCons (eVar 3) (aNil)))) (gName3 5)) (sNext)) (sRet (eCall fTup (aCons (eVar 4) (aCons (eVar 5) (aNil))))))))
def m_law_cell : FM := runB 6 b_law_cell
def b_law_machine : SM := sSeq (sAsg (eCall m_law_take (aCons (eVar 0) (aCons (eC (.int 3)) (aNil)))) (gName3 2)) (sSeq (sAsg (eOp dIxA (eCall fLst (aCons (eC (.int 0)) (aCons (eC (.int 1)) (aCons (eC (.int 2)) (aCons (eC (.int 5)) (aNil)))))) (eCall m_law_take (aCons (eVar 0) (aCons (eC (.int 4)) (aNil))))) (gName3 3)) (sSeq (sAsg (eOp dIxA (eCall fLst (aCons (eC (.int 1)) (aCons (eC (.int 2)) (aCons (eC (.int 3)) (aCons (eC (.int 8)) (aNil)))))) (eCall m_law_take (aCons (eVar 0) (aCons (eC (.int 4)) (aNil))))) (gName3 4)) (sSeq (sAsg (eOp dPlusA (eC (.int 1)) (eCall m_law_take (aCons (eVar 0) (aCons (eC (.int 4)) (aNil))))) (gName3 5)) (sSeq (sAsg (eOp dPlusA (eC (.int 1)) (eCall m_law_take (aCons (eVar 0) (aCons (eVar 1) (aNil))))) (gName3 6)) (sSeq (sAsg (eCall fLst (aNil)) (gName3 7)) (sSeq (sForR (rng1 (aCons (eVar 6) (aNil))) (gName3 8) (sIf (tAnd3 (tE (eOp dGt (eVar 8) (eC (.int 0)))) (tAnd3 (tE (eOp dGt (eVar 2) (eC (.int 0)))) (tE (eOp dGt (eCall m_law_take (aCons (eVar 0) (aCons (eC (.int 3)) (aNil)))) (eC (.int 0)))))) (sDrop (eMethL mAppend (eVar 7) (aCons (eCall m_law_near (aCons (eVar 0) (aCons (eOp dIxA (eVar 7) (eCall m_law_take (aCons (eVar 0) (aCons (eVar 8) (aNil))))) (aCons (eVar 6) (aCons (eVar 4) (aNil)))))) aNil))) (sDrop (eMethL mAppend (eVar 7) (aCons (eCall fTuple (aCons (eComp (iRng (rng1 (aCons (eVar 5) (aNil)))) [none, some 0, some 6, some 3, some 4] (gName3 0) (tTrue) (eCall m_law_cell (aCons (eVar 1) (aCons (eVar 2) (aCons (eVar 3) (aCons (eVar 4) (aNil))))))) (aNil))) aNil))))) (sRet (eCall fTup (aCons (eVar 5) (aCons (eCall fTuple (aCons (eVar 7) (aNil))) (aNil)))))))))))
def m_law_machine : FM := runB 9 b_law_machine
def b_law : SM := sSeq (sAsg (eCall fLst (aCons (eVar 0) (aCons (eC (.int 0)) (aCons (eC (.int 0)) (aNil))))) (gName3 1)) (sSeq (sForR (rng1 (aCons (eC (.int 4)) (aNil))) (gName3 2) (sSeq (sAsg (eCall m_law_machine (aCons (eVar 1) (aCons (eC (.int 7)) (aNil)))) (gName3 3)) (sSeq (sAsg (eCall m_law_far (aCons (eVar 3) (aNil))) (gName3 4)) (sForR (rng1 (aCons (eCall fLenA (aCons (eOp dIxA (eVar 3) (eC (.int 1))) (aNil))) (aNil))) (gName3 5) (sForR (rng1 (aCons (eCall fLenA (aCons (eOp dIxA (eVar 3) (eC (.int 1))) (aNil))) (aNil))) (gName3 6) (sSeq (sAsg (eCall m_law_first (aCons (eVar 3) (aCons (eVar 4) (aCons (eVar 5) (aCons (eVar 6) (aNil)))))) (gName3 7)) (sIf (tE (eOp dNe (eCall fRepr (aCons (eCall m_parting (aCons (eVar 3) (aCons (eVar 5) (aCons (eVar 6) (aNil))))) (aNil))) (eCall fRepr (aCons (eVar 7) (aNil))))) (sRet (eC (.bl false))) (sNext)))))))) (sRet (eC (.bl true))))
def m_law : FM := runB 8 b_law
section
variable {P : Program} {w : World} {K : PySem.W.Frag} {mg : Str → Option Value} {base : Heap} {CA : Str → Addr}
theorem sc_answers_unlike : FnScope ["one", "other"] ["one", "other"] (defScope (top bd 3)) := ⟨rfl, rfl, rfl, by decide +kernel, rfl, by decide +kernel, by decide +kernel⟩
theorem h_m_answers_unlike {f : Addr} {fd : FuncData} (F : Fun K "answers_unlike" "answers_unlike" (top bd 3) f fd) (hm : mg "answers_unlike" = some (.ref f)) : Has P w K mg base "answers_unlike" 1 2 m_answers_unlike := by
  have sc := sc_answers_unlike
  refine has_of (k := 0) F hm sc rfl (F.binds fun _ _ _ _ _ _ us hl => match us, hl with | [_, _], _ => rfl) fun cdv hcd A outer s H E hr => ?_
  exact ss3_one (s3_ret (p3_and (p3_isnot (p3_var 0) (p3_non)) (p3_and (p3_isnot (p3_var 1) (p3_non)) (p3_one (p3_ne (p3_var 0) (p3_var 1))))))
theorem sc_say_unlike : FnScope ["cell", "beside"] ["cell", "beside"] (defScope (top bd 4)) := ⟨rfl, rfl, rfl, by decide +kernel, rfl, by decide +kernel, by decide +kernel⟩
theorem h_m_say_unlike {f : Addr} {fd : FuncData} (F : Fun K "say_unlike" "say_unlike" (top bd 4) f fd) (hm : mg "say_unlike" = some (.ref f)) (h_m_answers_unlike : Has P w K mg base "answers_unlike" 1 2 m_answers_unlike) : Has P w K mg base "say_unlike" 2 2 m_say_unlike := by
  have sc := sc_say_unlike
  refine has_of (k := 1) F hm sc rfl (F.binds fun _ _ _ _ _ _ us hl => match us, hl with | [_, _], _ => rfl) fun cdv hcd A outer s H E hr => ?_
  exact ss3_one (s3_ret (p3_fn h_m_answers_unlike hr (by decide) rfl (a3_cons (p3_ixA (p3_var 0) (p3_int)) (a3_cons (p3_ixA (p3_var 1) (p3_int)) (a3_nil))) (len_cons (len_cons len_nil))))
theorem sc_walk_both : FnScope ["machine", "other", "begin", "fails", "pairs", "rows", "seen", "at", "one", "two", "row", "ask", "cell", "beside", "behind"] ["machine", "other", "begin", "fails"] (defScope (top bd 1)) := ⟨rfl, rfl, rfl, by decide +kernel, rfl, by decide +kernel, by decide +kernel⟩
theorem h_m_walk_both {f : Addr} {fd : FuncData} (F : Fun K "walk_both" "walk_both" (top bd 1) f fd) (hm : mg "walk_both" = some (.ref f)) (z_len : mg "len" = none) (z_range : mg "range" = none) (h_m_say_unlike : Has P w K mg base "say_unlike" 2 2 m_say_unlike) (fn_say_unlike : Fnc K mg "say_unlike") : Has P w K mg base "walk_both" 3 4 m_walk_both := by
  have sc := sc_walk_both
  refine has_of (k := 2) F hm sc rfl (F.binds fun _ _ _ _ _ _ us hl => match us, hl with | [_, _, _, _], _ => rfl) fun cdv hcd A outer s H E hr => ?_
  exact ss3_cons (s3_set 4 sc.nd (p3_lst (a3_cons (p3_var 2) (a3_nil)))) (ss3_cons (s3_set 5 sc.nd (p3_lst (a3_cons (p3_tup (a3_nil)) (a3_nil)))) (ss3_cons (s3_set 6 sc.nd (p3_setT hr hcd (p3_var 2))) (ss3_cons (s3_set 7 sc.nd (p3_int)) (ss3_cons (s3_while FUEL PassesOwn.never (t3_lt (p3_var 7) (p3_lenA rfl z_len (a3_cons (p3_var 4) (a3_nil)))) (ss3_cons (s3_asg (p3_ixA (p3_var 4) (p3_var 7)) (g3_tup rfl (gs3_cons (g3_name 8 sc.nd) (gs3_cons (g3_name 9 sc.nd) (gs3_nil))))) (ss3_cons (s3_set 10 sc.nd (p3_ixA (p3_var 5) (p3_var 7))) (ss3_cons (s3_aug 7 sc.nd (p3_int)) (ss3_one (s3_forR1 PassesOwn.never rfl rfl z_range (a3_cons (p3_ixA (p3_var 0) (p3_int)) (a3_nil)) (g3_name 11 sc.nd) (ss3_cons (s3_set 12 sc.nd (p3_ixA (p3_ixA (p3_ixA (p3_var 0) (p3_int)) (p3_var 8)) (p3_var 11))) (ss3_cons (s3_set 13 sc.nd (p3_ixA (p3_ixA (p3_ixA (p3_var 1) (p3_int)) (p3_var 9)) (p3_var 11))) (ss3_cons (s3_if (t3_val (p3_callV hr (p3_var 3) (a3_cons (p3_var 12) (a3_cons (p3_var 13) (a3_nil))) (len_cons (len_cons len_nil)) (tab1 (R := fun x m => Fnc _ _ x ∧ ∃ k, k ≤ _ ∧ Has _ _ _ _ _ x k _ m) ⟨fn_say_unlike, _, (by decide), h_m_say_unlike⟩))) (ss3_one (s3_ret (p3_tup (a3_cons (p3_plusA (p3_var 10) (p3_tup (a3_cons (p3_var 11) (a3_nil)))) (a3_cons (p3_var 4) (a3_nil)))))) (ss3_nil)) (ss3_cons (s3_set 14 sc.nd (p3_tup (a3_cons (p3_ixA (p3_var 12) (p3_int)) (a3_cons (p3_ixA (p3_var 13) (p3_int)) (a3_nil))))) (ss3_one (s3_if (t3_w (w3_and (t3_notin (p3_non) (p3_var 14)) (w3_and1 (t3_notinT hr (p3_var 14) (p3_var 6))))) (ss3_cons (s3_expr (p3_saddT hr (p3_var 6) (p3_var 14))) (ss3_cons (s3_expr (p3_append (p3_var 4) (p3_var 14))) (ss3_one (s3_expr (p3_append (p3_var 5) (p3_plusA (p3_var 10) (p3_tup (a3_cons (p3_var 11) (a3_nil))))))))) (ss3_nil))))))))))))) (ss3_one (s3_ret (p3_tup (a3_cons (p3_non) (a3_cons (p3_var 4) (a3_nil))))))))))
theorem sc_parting : FnScope ["machine", "one", "other"] ["machine", "one", "other"] (defScope (top bd 5)) := ⟨rfl, rfl, rfl, by decide +kernel, rfl, by decide +kernel, by decide +kernel⟩
theorem h_m_parting {f : Addr} {fd : FuncData} (F : Fun K "parting" "parting" (top bd 5) f fd) (hm : mg "parting" = some (.ref f)) (h_m_walk_both : Has P w K mg base "walk_both" 3 4 m_walk_both) (fn_say_unlike : Fnc K mg "say_unlike") : Has P w K mg base "parting" 4 3 m_parting := by
  have sc := sc_parting
  refine has_of (k := 3) F hm sc rfl (F.binds fun _ _ _ _ _ _ us hl => match us, hl with | [_, _, _], _ => rfl) fun cdv hcd A outer s H E hr => ?_
  exact ss3_one (s3_ret (p3_ixA (p3_fn h_m_walk_both hr (by decide) rfl (a3_cons (p3_var 0) (a3_cons (p3_var 0) (a3_cons (p3_tup (a3_cons (p3_var 1) (a3_cons (p3_var 2) (a3_nil)))) (a3_cons (p3_fnc fn_say_unlike rfl) (a3_nil))))) (len_cons (len_cons (len_cons (len_cons len_nil))))) (p3_int)))
theorem sc_law_unlike : FnScope ["_law_machine_here", "_law_one", "_law_other", "_law_ask", "_law_first_here", "_law_second"] ["_law_machine_here", "_law_one", "_law_other", "_law_ask"] (defScope (top bd 11)) := ⟨rfl, rfl, rfl, by decide +kernel, rfl, by decide +kernel, by decide +kernel⟩
theorem h_m_law_unlike {f : Addr} {fd : FuncData} (F : Fun K "_law_unlike" "_law_unlike" (top bd 11) f fd) (hm : mg "_law_unlike" = some (.ref f)) : Has P w K mg base "_law_unlike" 1 4 m_law_unlike := by
  have sc := sc_law_unlike
  refine has_of (k := 0) F hm sc rfl (F.binds fun _ _ _ _ _ _ us hl => match us, hl with | [_, _, _, _], _ => rfl) fun cdv hcd A outer s H E hr => ?_
  exact ss3_cons (s3_set 4 sc.nd (p3_ixA (p3_ixA (p3_ixA (p3_ixA (p3_var 0) (p3_int)) (p3_var 1)) (p3_var 3)) (p3_int))) (ss3_cons (s3_set 5 sc.nd (p3_ixA (p3_ixA (p3_ixA (p3_ixA (p3_var 0) (p3_int)) (p3_var 2)) (p3_var 3)) (p3_int))) (ss3_one (s3_ret (p3_and (p3_isnot (p3_var 4) (p3_non)) (p3_and (p3_isnot (p3_var 5) (p3_non)) (p3_one (p3_ne (p3_var 4) (p3_var 5))))))))
theorem sc_law_both : FnScope ["_law_machine_here", "_law_one", "_law_other", "_law_ask", "_law_pair"] ["_law_machine_here", "_law_one", "_law_other", "_law_ask"] (defScope (top bd 12)) := ⟨rfl, rfl, rfl, by decide +kernel, rfl, by decide +kernel, by decide +kernel⟩
theorem h_m_law_both {f : Addr} {fd : FuncData} (F : Fun K "_law_both" "_law_both" (top bd 12) f fd) (hm : mg "_law_both" = some (.ref f)) : Has P w K mg base "_law_both" 1 4 m_law_both := by
  have sc := sc_law_both
  refine has_of (k := 0) F hm sc rfl (F.binds fun _ _ _ _ _ _ us hl => match us, hl with | [_, _, _, _], _ => rfl) fun cdv hcd A outer s H E hr => ?_
  exact ss3_cons (s3_set 4 sc.nd (p3_tup (a3_cons (p3_ixA (p3_ixA (p3_ixA (p3_ixA (p3_var 0) (p3_int)) (p3_var 1)) (p3_var 3)) (p3_int)) (a3_cons (p3_ixA (p3_ixA (p3_ixA (p3_ixA (p3_var 0) (p3_int)) (p3_var 2)) (p3_var 3)) (p3_int)) (a3_nil))))) (ss3_cons (s3_if (t3_in (p3_non) (p3_var 4)) (ss3_one (s3_ret (p3_non))) (ss3_nil)) (ss3_one (s3_ret (p3_var 4))))
theorem sc_law_first : FnScope ["_law_machine_here", "_law_far_here", "_law_one", "_law_other", "_law_row", "_law_asks", "_law_ask", "_law_pair"] ["_law_machine_here", "_law_far_here", "_law_one", "_law_other"] (defScope (top bd 14)) := ⟨rfl, rfl, rfl, by decide +kernel, rfl, by decide +kernel, by decide +kernel⟩
theorem h_m_law_first {f : Addr} {fd : FuncData} (F : Fun K "_law_first" "_law_first" (top bd 14) f fd) (hm : mg "_law_first" = some (.ref f)) (z_range : mg "range" = none) (h_m_law_unlike : Has P w K mg base "_law_unlike" 1 4 m_law_unlike) (h_m_law_both : Has P w K mg base "_law_both" 1 4 m_law_both) : Has P w K mg base "_law_first" 2 4 m_law_first := by
  have sc := sc_law_first
  refine has_of (k := 1) F hm sc rfl (F.binds fun _ _ _ _ _ _ us hl => match us, hl with | [_, _, _, _], _ => rfl) fun cdv hcd A outer s H E hr => ?_
  exact ss3_cons (s3_if (t3_notinX hr (p3_tup (a3_cons (p3_var 2) (a3_cons (p3_var 3) (a3_nil)))) (p3_var 1)) (ss3_one (s3_ret (p3_non))) (ss3_nil)) (ss3_cons (s3_set 4 sc.nd (p3_tup (a3_nil))) (ss3_cons (s3_while FUEL PassesOwn.never (t3_gt (p3_getX hr (p3_var 1) (p3_tup (a3_cons (p3_var 2) (a3_cons (p3_var 3) (a3_nil))))) (p3_int)) (ss3_cons (s3_set 5 sc.nd (p3_lst (a3_nil))) (ss3_cons (s3_forR1 PassesOwn.never rfl rfl z_range (a3_cons (p3_ixA (p3_var 0) (p3_int)) (a3_nil)) (g3_name 6 sc.nd) (ss3_cons (s3_set 7 sc.nd (p3_fn h_m_law_both hr (by decide) rfl (a3_cons (p3_var 0) (a3_cons (p3_var 2) (a3_cons (p3_var 3) (a3_cons (p3_var 6) (a3_nil))))) (len_cons (len_cons (len_cons (len_cons len_nil)))))) (ss3_one (s3_if (t3_w (w3_and (t3_isnot (p3_var 7) (p3_non)) (w3_and1 (t3_eq (p3_get2 hr (p3_var 1) (p3_var 7) (p3_int)) (p3_sub (p3_getX hr (p3_var 1) (p3_tup (a3_cons (p3_var 2) (a3_cons (p3_var 3) (a3_nil))))) (p3_int)))))) (ss3_one (s3_expr (p3_append (p3_var 5) (p3_var 6)))) (ss3_nil))))) (ss3_cons (s3_set 4 sc.nd (p3_plusA (p3_var 4) (p3_tup (a3_cons (p3_ixA (p3_var 5) (p3_int)) (a3_nil))))) (ss3_one (s3_asg (p3_fn h_m_law_both hr (by decide) rfl (a3_cons (p3_var 0) (a3_cons (p3_var 2) (a3_cons (p3_var 3) (a3_cons (p3_ixA (p3_var 5) (p3_int)) (a3_nil))))) (len_cons (len_cons (len_cons (len_cons len_nil))))) (g3_tup rfl (gs3_cons (g3_name 2 sc.nd) (gs3_cons (g3_name 3 sc.nd) (gs3_nil)))))))))) (ss3_cons (s3_setc 5 sc.nd (N' := ["_law_ask", "_law_machine_here", "_law_one", "_law_other"]) (ixs := [none, some 0, some 2, some 3]) rfl (compSc_of (scO := defScope (top bd 14)) (NO := ["_law_machine_here", "_law_far_here", "_law_one", "_law_other", "_law_row", "_law_asks", "_law_ask", "_law_pair"]) rfl rfl (by decide +kernel)) (i3_rng1 rfl z_range (a3_cons (p3_ixA (p3_var 0) (p3_int)) (a3_nil))) (fun _ _ _ _ _ => g3_name 0 (show List.Nodup (["_law_ask", "_law_machine_here", "_law_one", "_law_other"] : List Str) by decide +kernel)) (fun _ _ _ _ _ => pts3_one (t3_val (p3_fn h_m_law_unlike hr (by decide) rfl (a3_cons (p3_var 1) (a3_cons (p3_var 2) (a3_cons (p3_var 3) (a3_cons (p3_var 0) (a3_nil))))) (len_cons (len_cons (len_cons (len_cons len_nil))))))) (fun _ _ _ _ _ => p3_var 0)) (ss3_one (s3_ret (p3_plusA (p3_var 4) (p3_tup (a3_cons (p3_ixA (p3_var 5) (p3_int)) (a3_nil)))))))))
theorem sc_law_far : FnScope ["_law_machine_here", "_law_many", "_law_pairs", "_law_found", "_law_here", "_law_one", "_law_other", "_law_long", "_law_pair", "_law_later", "_law_met"] ["_law_machine_here"] (defScope (top bd 13)) := ⟨rfl, rfl, rfl, by decide +kernel, rfl, by decide +kernel, by decide +kernel⟩
theorem h_m_law_far {f : Addr} {fd : FuncData} (F : Fun K "_law_far" "_law_far" (top bd 13) f fd) (hm : mg "_law_far" = some (.ref f)) (z_range : mg "range" = none) (z_any : mg "any" = none) (z_len : mg "len" = none) (h_m_law_both : Has P w K mg base "_law_both" 1 4 m_law_both) (h_m_law_unlike : Has P w K mg base "_law_unlike" 1 4 m_law_unlike) : Has P w K mg base "_law_far" 2 1 m_law_far := by
  have sc := sc_law_far
  refine has_of (k := 1) F hm sc rfl (F.binds fun _ _ _ _ _ _ us hl => match us, hl with | [_], _ => rfl) fun cdv hcd A outer s H E hr => ?_
  exact ss3_cons (s3_set 1 sc.nd (p3_lenA rfl z_len (a3_cons (p3_ixA (p3_var 0) (p3_int)) (a3_nil)))) (ss3_cons (s3_setc 2 sc.nd (N' := ["_law_k", "_law_many"]) (ixs := [none, some 1]) rfl (compSc_of (scO := defScope (top bd 13)) (NO := ["_law_machine_here", "_law_many", "_law_pairs", "_law_found", "_law_here", "_law_one", "_law_other", "_law_long", "_law_pair", "_law_later", "_law_met"]) rfl rfl (by decide +kernel)) (i3_rng1 rfl z_range (a3_cons (p3_times (p3_var 1) (p3_var 1)) (a3_nil))) (fun _ _ _ _ _ => g3_name 0 (show List.Nodup (["_law_k", "_law_many"] : List Str) by decide +kernel)) (fun _ _ _ _ _ => pts3_nil) (fun _ _ _ _ _ => p3_tup (a3_cons (p3_div (p3_var 0) (p3_var 1)) (a3_cons (p3_mod (p3_var 0) (p3_var 1)) (a3_nil))))) (ss3_cons (s3_set 3 sc.nd (p3_dictT)) (ss3_cons (s3_set 4 sc.nd (p3_lst (a3_nil))) (ss3_cons (s3_for PassesOwn.never rfl (p3_var 2) (g3_tup rfl (gs3_cons (g3_name 5 sc.nd) (gs3_cons (g3_name 6 sc.nd) (gs3_nil)))) (ss3_one (s3_if (t3_val (p3_any rfl rfl z_any (a3_cons (p3_comp (N' := ["_law_ask", "_law_machine_here", "_law_one", "_law_other"]) (ixs := [none, some 0, some 5, some 6]) rfl (compSc_of (scO := defScope (top bd 13)) (NO := ["_law_machine_here", "_law_many", "_law_pairs", "_law_found", "_law_here", "_law_one", "_law_other", "_law_long", "_law_pair", "_law_later", "_law_met"]) rfl rfl (by decide +kernel)) (i3_rng1 rfl z_range (a3_cons (p3_ixA (p3_var 0) (p3_int)) (a3_nil))) (fun _ _ _ _ _ => g3_name 0 (show List.Nodup (["_law_ask", "_law_machine_here", "_law_one", "_law_other"] : List Str) by decide +kernel)) (fun _ _ _ _ _ => pts3_nil) (fun _ _ _ _ _ => p3_fn h_m_law_unlike hr (by decide) rfl (a3_cons (p3_var 1) (a3_cons (p3_var 2) (a3_cons (p3_var 3) (a3_cons (p3_var 0) (a3_nil))))) (len_cons (len_cons (len_cons (len_cons len_nil)))))) (a3_nil)))) (ss3_one (s3_expr (p3_append (p3_var 4) (p3_tup (a3_cons (p3_var 5) (a3_cons (p3_var 6) (a3_nil))))))) (ss3_nil)))) (ss3_cons (s3_set 7 sc.nd (p3_int)) (ss3_cons (s3_while FUEL PassesOwn.never (t3_neNil hr (p3_var 4) (p3_lst (a3_nil))) (ss3_cons (s3_for PassesOwn.never rfl (p3_var 4) (g3_name 8 sc.nd) (ss3_one (s3_putX hr (p3_var 3) (p3_var 8) (p3_var 7)))) (ss3_cons (s3_set 7 sc.nd (p3_plusA (p3_var 7) (p3_int))) (ss3_cons (s3_set 4 sc.nd (p3_lst (a3_nil))) (ss3_one (s3_for PassesOwn.never rfl (p3_var 2) (g3_tup rfl (gs3_cons (g3_name 5 sc.nd) (gs3_cons (g3_name 6 sc.nd) (gs3_nil)))) (ss3_cons (s3_setc 9 sc.nd (N' := ["_law_ask", "_law_machine_here", "_law_one", "_law_other"]) (ixs := [none, some 0, some 5, some 6]) rfl (compSc_of (scO := defScope (top bd 13)) (NO := ["_law_machine_here", "_law_many", "_law_pairs", "_law_found", "_law_here", "_law_one", "_law_other", "_law_long", "_law_pair", "_law_later", "_law_met"]) rfl rfl (by decide +kernel)) (i3_rng1 rfl z_range (a3_cons (p3_ixA (p3_var 0) (p3_int)) (a3_nil))) (fun _ _ _ _ _ => g3_name 0 (show List.Nodup (["_law_ask", "_law_machine_here", "_law_one", "_law_other"] : List Str) by decide +kernel)) (fun _ _ _ _ _ => pts3_nil) (fun _ _ _ _ _ => p3_fn h_m_law_both hr (by decide) rfl (a3_cons (p3_var 1) (a3_cons (p3_var 2) (a3_cons (p3_var 3) (a3_cons (p3_var 0) (a3_nil))))) (len_cons (len_cons (len_cons (len_cons len_nil)))))) (ss3_cons (s3_setc 10 sc.nd (N' := ["_law_pair", "_law_found"]) (ixs := [none, some 3]) rfl (compSc_of (scO := defScope (top bd 13)) (NO := ["_law_machine_here", "_law_many", "_law_pairs", "_law_found", "_law_here", "_law_one", "_law_other", "_law_long", "_law_pair", "_law_later", "_law_met"]) rfl rfl (by decide +kernel)) (i3_val (p3_var 9)) (fun _ _ _ _ _ => g3_name 0 (show List.Nodup (["_law_pair", "_law_found"] : List Str) by decide +kernel)) (fun _ _ _ _ _ => pts3_one (t3_w (w3_and (t3_isnot (p3_var 0) (p3_non)) (w3_and1 (t3_inX hr (p3_var 0) (p3_var 1)))))) (fun _ _ _ _ _ => p3_var 0)) (ss3_one (s3_if (t3_w (w3_and (t3_notinX hr (p3_tup (a3_cons (p3_var 5) (a3_cons (p3_var 6) (a3_nil)))) (p3_var 3)) (w3_and1 (t3_neNil hr (p3_var 10) (p3_lst (a3_nil)))))) (ss3_one (s3_expr (p3_append (p3_var 4) (p3_tup (a3_cons (p3_var 5) (a3_cons (p3_var 6) (a3_nil))))))) (ss3_nil))))))))))) (ss3_one (s3_ret (p3_var 3)))))))))
theorem sc_law_take : FnScope ["_law_pen", "_law_many", "_law_digit", "_law_at", "_law_cell_here", "_law_primes", "_law_prime", "_law_number"] ["_law_pen", "_law_many"] (defScope (top bd 7)) := ⟨rfl, rfl, rfl, by decide +kernel, rfl, by decide +kernel, by decide +kernel⟩
theorem h_m_law_take {f : Addr} {fd : FuncData} (F : Fun K "_law_take" "_law_take" (top bd 7) f fd) (hm : mg "_law_take" = some (.ref f)) (z_len : mg "len" = none) (z_abs : mg "abs" = none) : Has P w K mg base "_law_take" 1 2 m_law_take := by
  have sc := sc_law_take
  refine has_of (k := 0) F hm sc rfl (F.binds fun _ _ _ _ _ _ us hl => match us, hl with | [_, _], _ => rfl) fun cdv hcd A outer s H E hr => ?_
  exact ss3_cons (s3_if (t3_gt (p3_ixA (p3_var 0) (p3_int)) (p3_int)) (ss3_cons (s3_set 2 sc.nd (p3_mod (p3_ixA (p3_var 0) (p3_int)) (p3_var 1))) (ss3_cons (s3_asg (p3_div (p3_ixA (p3_var 0) (p3_int)) (p3_var 1)) (g3_sub (p3_var 0) (p3_int))) (ss3_one (s3_ret (p3_var 2))))) (ss3_nil)) (ss3_cons (s3_set 3 sc.nd (p3_ixA (p3_var 0) (p3_int))) (ss3_cons (s3_asg (p3_plusA (p3_var 3) (p3_int)) (g3_sub (p3_var 0) (p3_int))) (ss3_cons (s3_set 4 sc.nd (p3_int)) (ss3_cons (s3_if (t3_gt (p3_lenA rfl z_len (a3_cons (p3_ixA (p3_var 0) (p3_int)) (a3_nil))) (p3_int)) (ss3_one (s3_set 4 sc.nd (p3_ixA (p3_ixA (p3_var 0) (p3_int)) (p3_mod (p3_var 3) (p3_lenA rfl z_len (a3_cons (p3_ixA (p3_var 0) (p3_int)) (a3_nil))))))) (ss3_nil)) (ss3_cons (s3_if (t3_w (w3_and (t3_lt (p3_var 3) (p3_lenA rfl z_len (a3_cons (p3_ixA (p3_var 0) (p3_int)) (a3_nil)))) (w3_and1 (t3_ge (p3_abs rfl z_abs (a3_cons (p3_var 4) (a3_nil))) (p3_pow (p3_int) (p3_int)))))) (ss3_cons (s3_asg (p3_div (p3_abs rfl z_abs (a3_cons (p3_var 4) (a3_nil))) (p3_var 1)) (g3_sub (p3_var 0) (p3_int))) (ss3_one (s3_ret (p3_mod (p3_abs rfl z_abs (a3_cons (p3_var 4) (a3_nil))) (p3_var 1))))) (ss3_nil)) (ss3_cons (s3_set 5 sc.nd (p3_lst (a3_cons (p3_int) (a3_cons (p3_int) (a3_cons (p3_int) (a3_cons (p3_int) (a3_cons (p3_int) (a3_cons (p3_int) (a3_cons (p3_int) (a3_nil)))))))))) (ss3_cons (s3_set 6 sc.nd (p3_ixA (p3_var 5) (p3_mod (p3_var 3) (p3_int)))) (ss3_cons (s3_set 7 sc.nd (p3_mod (p3_plusA (p3_plusA (p3_times (p3_mod (p3_var 4) (p3_var 6)) (p3_int)) (p3_times (p3_int) (p3_var 3))) (p3_int)) (p3_var 6))) (ss3_cons (s3_set 7 sc.nd (p3_mod (p3_plusA (p3_plusA (p3_times (p3_pow (p3_var 7) (p3_int)) (p3_int)) (p3_times (p3_var 3) (p3_var 3))) (p3_int)) (p3_ixA (p3_var 5) (p3_mod (p3_plusA (p3_var 3) (p3_int)) (p3_int))))) (ss3_one (s3_ret (p3_mod (p3_div (p3_var 7) (p3_int)) (p3_var 1)))))))))))))
theorem sc_law_near : FnScope ["_law_pen", "_law_room", "_law_many", "_law_kinds", "_law_cells", "_law_cell_here", "_law_way", "_law_goes", "_law_tells"] ["_law_pen", "_law_room", "_law_many", "_law_kinds"] (defScope (top bd 9)) := ⟨rfl, rfl, rfl, by decide +kernel, rfl, by decide +kernel, by decide +kernel⟩
theorem h_m_law_near {f : Addr} {fd : FuncData} (F : Fun K "_law_near" "_law_near" (top bd 9) f fd) (hm : mg "_law_near" = some (.ref f)) (z_tuple : mg "tuple" = none) (h_m_law_take : Has P w K mg base "_law_take" 1 2 m_law_take) : Has P w K mg base "_law_near" 2 4 m_law_near := by
  have sc := sc_law_near
  refine has_of (k := 1) F hm sc rfl (F.binds fun _ _ _ _ _ _ us hl => match us, hl with | [_, _, _, _], _ => rfl) fun cdv hcd A outer s H E hr => ?_
  exact ss3_cons (s3_set 4 sc.nd (p3_lst (a3_nil))) (ss3_cons (s3_for PassesOwn.never rfl (p3_var 1) (g3_name 5 sc.nd) (ss3_cons (s3_set 6 sc.nd (p3_fn h_m_law_take hr (by decide) rfl (a3_cons (p3_var 0) (a3_cons (p3_int) (a3_nil))) (len_cons (len_cons len_nil)))) (ss3_cons (s3_asg (p3_var 5) (g3_tup rfl (gs3_cons (g3_name 7 sc.nd) (gs3_cons (g3_name 8 sc.nd) (gs3_nil))))) (ss3_cons (s3_if (t3_eq (p3_var 6) (p3_int)) (ss3_one (s3_set 7 sc.nd (p3_non))) (ss3_nil)) (ss3_cons (s3_if (t3_eq (p3_var 6) (p3_int)) (ss3_one (s3_set 8 sc.nd (p3_non))) (ss3_nil)) (ss3_cons (s3_if (t3_eq (p3_var 6) (p3_int)) (ss3_one (s3_set 7 sc.nd (p3_fn h_m_law_take hr (by decide) rfl (a3_cons (p3_var 0) (a3_cons (p3_var 2) (a3_nil))) (len_cons (len_cons len_nil))))) (ss3_nil)) (ss3_cons (s3_if (t3_eq (p3_var 6) (p3_int)) (ss3_one (s3_set 8 sc.nd (p3_fn h_m_law_take hr (by decide) rfl (a3_cons (p3_var 0) (a3_cons (p3_var 3) (a3_nil))) (len_cons (len_cons len_nil))))) (ss3_nil)) (ss3_one (s3_expr (p3_append (p3_var 4) (p3_tup (a3_cons (p3_var 7) (a3_cons (p3_var 8) (a3_nil)))))))))))))) (ss3_one (s3_ret (p3_tuple1 rfl z_tuple (a3_cons (p3_var 4) (a3_nil))))))
theorem sc_law_cell : FnScope ["_law_pen", "_law_many", "_law_share", "_law_kinds", "_law_goes", "_law_tells"] ["_law_pen", "_law_many", "_law_share", "_law_kinds"] (defScope (top bd 8)) := ⟨rfl, rfl, rfl, by decide +kernel, rfl, by decide +kernel, by decide +kernel⟩
theorem h_m_law_cell {f : Addr} {fd : FuncData} (F : Fun K "_law_cell" "_law_cell" (top bd 8) f fd) (hm : mg "_law_cell" = some (.ref f)) (h_m_law_take : Has P w K mg base "_law_take" 1 2 m_law_take) : Has P w K mg base "_law_cell" 2 4 m_law_cell := by
  have sc := sc_law_cell
  refine has_of (k := 1) F hm sc rfl (F.binds fun _ _ _ _ _ _ us hl => match us, hl with | [_, _, _, _], _ => rfl) fun cdv hcd A outer s H E hr => ?_
  exact ss3_cons (s3_set 4 sc.nd (p3_non)) (ss3_cons (s3_if (t3_ge (p3_fn h_m_law_take hr (by decide) rfl (a3_cons (p3_var 0) (a3_cons (p3_int) (a3_nil))) (len_cons (len_cons len_nil))) (p3_var 2)) (ss3_one (s3_set 4 sc.nd (p3_fn h_m_law_take hr (by decide) rfl (a3_cons (p3_var 0) (a3_cons (p3_var 1) (a3_nil))) (len_cons (len_cons len_nil))))) (ss3_nil)) (ss3_cons (s3_set 5 sc.nd (p3_non)) (ss3_cons (s3_if (t3_ge (p3_fn h_m_law_take hr (by decide) rfl (a3_cons (p3_var 0) (a3_cons (p3_int) (a3_nil))) (len_cons (len_cons len_nil))) (p3_var 2)) (ss3_one (s3_set 5 sc.nd (p3_fn h_m_law_take hr (by decide) rfl (a3_cons (p3_var 0) (a3_cons (p3_var 3) (a3_nil))) (len_cons (len_cons len_nil))))) (ss3_nil)) (ss3_one (s3_ret (p3_tup (a3_cons (p3_var 4) (a3_cons (p3_var 5) (a3_nil)))))))))
theorem sc_law_machine : FnScope ["_law_pen", "_law_most", "_law_copies", "_law_share", "_law_kinds", "_law_asks", "_law_many", "_law_rooms", "_law_k"] ["_law_pen", "_law_most"] (defScope (top bd 10)) := ⟨rfl, rfl, rfl, by decide +kernel, rfl, by decide +kernel, by decide +kernel⟩
theorem h_m_law_machine {f : Addr} {fd : FuncData} (F : Fun K "_law_machine" "_law_machine" (top bd 10) f fd) (hm : mg "_law_machine" = some (.ref f)) (z_tuple : mg "tuple" = none) (z_range : mg "range" = none) (h_m_law_take : Has P w K mg base "_law_take" 1 2 m_law_take) (h_m_law_near : Has P w K mg base "_law_near" 2 4 m_law_near) (h_m_law_cell : Has P w K mg base "_law_cell" 2 4 m_law_cell) : Has P w K mg base "_law_machine" 3 2 m_law_machine := by
  have sc := sc_law_machine
  refine has_of (k := 2) F hm sc rfl (F.binds fun _ _ _ _ _ _ us hl => match us, hl with | [_, _], _ => rfl) fun cdv hcd A outer s H E hr => ?_
  exact ss3_cons (s3_set 2 sc.nd (p3_fn h_m_law_take hr (by decide) rfl (a3_cons (p3_var 0) (a3_cons (p3_int) (a3_nil))) (len_cons (len_cons len_nil)))) (ss3_cons (s3_set 3 sc.nd (p3_ixA (p3_lst (a3_cons (p3_int) (a3_cons (p3_int) (a3_cons (p3_int) (a3_cons (p3_int) (a3_nil)))))) (p3_fn h_m_law_take hr (by decide) rfl (a3_cons (p3_var 0) (a3_cons (p3_int) (a3_nil))) (len_cons (len_cons len_nil))))) (ss3_cons (s3_set 4 sc.nd (p3_ixA (p3_lst (a3_cons (p3_int) (a3_cons (p3_int) (a3_cons (p3_int) (a3_cons (p3_int) (a3_nil)))))) (p3_fn h_m_law_take hr (by decide) rfl (a3_cons (p3_var 0) (a3_cons (p3_int) (a3_nil))) (len_cons (len_cons len_nil))))) (ss3_cons (s3_set 5 sc.nd (p3_plusA (p3_int) (p3_fn h_m_law_take hr (by decide) rfl (a3_cons (p3_var 0) (a3_cons (p3_int) (a3_nil))) (len_cons (len_cons len_nil))))) (ss3_cons (s3_set 6 sc.nd (p3_plusA (p3_int) (p3_fn h_m_law_take hr (by decide) rfl (a3_cons (p3_var 0) (a3_cons (p3_var 1) (a3_nil))) (len_cons (len_cons len_nil))))) (ss3_cons (s3_set 7 sc.nd (p3_lst (a3_nil))) (ss3_cons (s3_forR1 PassesOwn.never rfl rfl z_range (a3_cons (p3_var 6) (a3_nil)) (g3_name 8 sc.nd) (ss3_one (s3_if (t3_w (w3_and (t3_gt (p3_var 8) (p3_int)) (w3_and (t3_gt (p3_var 2) (p3_int)) (w3_and1 (t3_gt (p3_fn h_m_law_take hr (by decide) rfl (a3_cons (p3_var 0) (a3_cons (p3_int) (a3_nil))) (len_cons (len_cons len_nil))) (p3_int)))))) (ss3_one (s3_expr (p3_append (p3_var 7) (p3_fn h_m_law_near hr (by decide) rfl (a3_cons (p3_var 0) (a3_cons (p3_ixA (p3_var 7) (p3_fn h_m_law_take hr (by decide) rfl (a3_cons (p3_var 0) (a3_cons (p3_var 8) (a3_nil))) (len_cons (len_cons len_nil)))) (a3_cons (p3_var 6) (a3_cons (p3_var 4) (a3_nil))))) (len_cons (len_cons (len_cons (len_cons len_nil)))))))) (ss3_one (s3_expr (p3_append (p3_var 7) (p3_tuple1 rfl z_tuple (a3_cons (p3_comp (N' := ["_law_ask", "_law_pen", "_law_many", "_law_share", "_law_kinds"]) (ixs := [none, some 0, some 6, some 3, some 4]) rfl (compSc_of (scO := defScope (top bd 10)) (NO := ["_law_pen", "_law_most", "_law_copies", "_law_share", "_law_kinds", "_law_asks", "_law_many", "_law_rooms", "_law_k"]) rfl rfl (by decide +kernel)) (i3_rng1 rfl z_range (a3_cons (p3_var 5) (a3_nil))) (fun _ _ _ _ _ => g3_name 0 (show List.Nodup (["_law_ask", "_law_pen", "_law_many", "_law_share", "_law_kinds"] : List Str) by decide +kernel)) (fun _ _ _ _ _ => pts3_nil) (fun _ _ _ _ _ => p3_fn h_m_law_cell hr (by decide) rfl (a3_cons (p3_var 1) (a3_cons (p3_var 2) (a3_cons (p3_var 3) (a3_cons (p3_var 4) (a3_nil))))) (len_cons (len_cons (len_cons (len_cons len_nil)))))) (a3_nil))))))))) (ss3_one (s3_ret (p3_tup (a3_cons (p3_var 5) (a3_cons (p3_tuple1 rfl z_tuple (a3_cons (p3_var 7) (a3_nil))) (a3_nil))))))))))))
theorem sc_law : FnScope ["_law_script", "_law_pen", "_law_turn", "_law_machine_here", "_law_far_here", "_law_one", "_law_other", "_law_due"] ["_law_script"] (defScope (top bd 15)) := ⟨rfl, rfl, rfl, by decide +kernel, rfl, by decide +kernel, by decide +kernel⟩
theorem law_fn {f : Addr} {fd : FuncData} (F : Fun K "law" "law" (top bd 15) f fd) (z_repr : mg "repr" = none) (z_range : mg "range" = none) (z_len : mg "len" = none) (h_m_parting : Has P w K mg base "parting" 4 3 m_parting) (h_m_law_first : Has P w K mg base "_law_first" 2 4 m_law_first) (h_m_law_far : Has P w K mg base "_law_far" 2 1 m_law_far) (h_m_law_machine : Has P w K mg base "_law_machine" 3 2 m_law_machine) : FnOk P w K mg base CX0 5 f fd ["_law_script"] (sp3 K 1 m_law) := by
  have sc := sc_law
  refine fun3 (k := 4) F sc rfl fun cdv hcd A outer s H E hr => ?_
  exact ss3_cons (s3_set 1 sc.nd (p3_lst (a3_cons (p3_var 0) (a3_cons (p3_int) (a3_cons (p3_int) (a3_nil)))))) (ss3_cons (s3_forR1 PassesOwn.never rfl rfl z_range (a3_cons (p3_int) (a3_nil)) (g3_name 2 sc.nd) (ss3_cons (s3_set 3 sc.nd (p3_fn h_m_law_machine hr (by decide) rfl (a3_cons (p3_var 1) (a3_cons (p3_int) (a3_nil))) (len_cons (len_cons len_nil)))) (ss3_cons (s3_set 4 sc.nd (p3_fn h_m_law_far hr (by decide) rfl (a3_cons (p3_var 3) (a3_nil)) (len_cons len_nil))) (ss3_one (s3_forR1 PassesOwn.never rfl rfl z_range (a3_cons (p3_lenA rfl z_len (a3_cons (p3_ixA (p3_var 3) (p3_int)) (a3_nil))) (a3_nil)) (g3_name 5 sc.nd) (ss3_one (s3_forR1 PassesOwn.never rfl rfl z_range (a3_cons (p3_lenA rfl z_len (a3_cons (p3_ixA (p3_var 3) (p3_int)) (a3_nil))) (a3_nil)) (g3_name 6 sc.nd) (ss3_cons (s3_set 7 sc.nd (p3_fn h_m_law_first hr (by decide) rfl (a3_cons (p3_var 3) (a3_cons (p3_var 4) (a3_cons (p3_var 5) (a3_cons (p3_var 6) (a3_nil))))) (len_cons (len_cons (len_cons (len_cons len_nil)))))) (ss3_one (s3_if (t3_ne (p3_repr hr rfl z_repr (a3_cons (p3_fn h_m_parting hr (by decide) rfl (a3_cons (p3_var 3) (a3_cons (p3_var 5) (a3_cons (p3_var 6) (a3_nil)))) (len_cons (len_cons (len_cons len_nil)))) (a3_nil))) (p3_repr hr rfl z_repr (a3_cons (p3_var 7) (a3_nil)))) (ss3_one (s3_ret (p3_bl))) (ss3_nil))))))))))) (ss3_one (s3_ret (p3_bl))))
end
theorem all_mk {l : PySem.W.OpenLaw} {w : World} {K : PySem.W.Frag} {h : Heap} {mg : Str → Option Value} {fa : Addr} (X : K.In h) (G : h.Ns mainGlobals mg) (hfa : mg "law" = some (.ref fa)) {f0 f1 f2 f3 f4 f5 f6 f7 f8 f9 f10 f11 f12 : Addr}
    {od0 an0 : Option Addr} {sl0 : Array (Option Value)} {oc0 kV0 dc0 pm0 cd0 ct0 : Value}
    {od1 an1 : Option Addr} {sl1 : Array (Option Value)} {oc1 kV1 dc1 pm1 cd1 ct1 : Value}
    {od2 an2 : Option Addr} {sl2 : Array (Option Value)} {oc2 kV2 dc2 pm2 cd2 ct2 : Value}
    {od3 an3 : Option Addr} {sl3 : Array (Option Value)} {oc3 kV3 dc3 pm3 cd3 ct3 : Value}
    {od4 an4 : Option Addr} {sl4 : Array (Option Value)} {oc4 kV4 dc4 pm4 cd4 ct4 : Value}
    {od5 an5 : Option Addr} {sl5 : Array (Option Value)} {oc5 kV5 dc5 pm5 cd5 ct5 : Value}
    {od6 an6 : Option Addr} {sl6 : Array (Option Value)} {oc6 kV6 dc6 pm6 cd6 ct6 : Value}
    {od7 an7 : Option Addr} {sl7 : Array (Option Value)} {oc7 kV7 dc7 pm7 cd7 ct7 : Value}
    {od8 an8 : Option Addr} {sl8 : Array (Option Value)} {oc8 kV8 dc8 pm8 cd8 ct8 : Value}
    {od9 an9 : Option Addr} {sl9 : Array (Option Value)} {oc9 kV9 dc9 pm9 cd9 ct9 : Value}
    {od10 an10 : Option Addr} {sl10 : Array (Option Value)} {oc10 kV10 dc10 pm10 cd10 ct10 : Value}
    {od11 an11 : Option Addr} {sl11 : Array (Option Value)} {oc11 kV11 dc11 pm11 cd11 ct11 : Value}
    {od12 an12 : Option Addr} {sl12 : Array (Option Value)} {oc12 kV12 dc12 pm12 cd12 ct12 : Value}
    (a0 : PySem.W.nsIn K mainGlobals "answers_unlike" = some (some (.ref f0))) (l0 : K.lookup f0 = some ⟨oc0, od0, .func (PySem.W.fnOf "answers_unlike" "answers_unlike" (defArgs (top bd 3)) (defBody (top bd 3)) (defScope (top bd 3)) .none kV0 dc0 pm0 an0 cd0 ct0), sl0⟩) (c0 : PySem.W.codeIn K cd0 "answers_unlike" = true) (k0 : PySem.W.keepIn K (.ref f0) = true)
    (a1 : PySem.W.nsIn K mainGlobals "say_unlike" = some (some (.ref f1))) (l1 : K.lookup f1 = some ⟨oc1, od1, .func (PySem.W.fnOf "say_unlike" "say_unlike" (defArgs (top bd 4)) (defBody (top bd 4)) (defScope (top bd 4)) .none kV1 dc1 pm1 an1 cd1 ct1), sl1⟩) (c1 : PySem.W.codeIn K cd1 "say_unlike" = true) (k1 : PySem.W.keepIn K (.ref f1) = true)
    (a2 : PySem.W.nsIn K mainGlobals "walk_both" = some (some (.ref f2))) (l2 : K.lookup f2 = some ⟨oc2, od2, .func (PySem.W.fnOf "walk_both" "walk_both" (defArgs (top bd 1)) (defBody (top bd 1)) (defScope (top bd 1)) .none kV2 dc2 pm2 an2 cd2 ct2), sl2⟩) (c2 : PySem.W.codeIn K cd2 "walk_both" = true) (k2 : PySem.W.keepIn K (.ref f2) = true)
    (a3 : PySem.W.nsIn K mainGlobals "parting" = some (some (.ref f3))) (l3 : K.lookup f3 = some ⟨oc3, od3, .func (PySem.W.fnOf "parting" "parting" (defArgs (top bd 5)) (defBody (top bd 5)) (defScope (top bd 5)) .none kV3 dc3 pm3 an3 cd3 ct3), sl3⟩) (c3 : PySem.W.codeIn K cd3 "parting" = true) (k3 : PySem.W.keepIn K (.ref f3) = true)
    (a4 : PySem.W.nsIn K mainGlobals "_law_unlike" = some (some (.ref f4))) (l4 : K.lookup f4 = some ⟨oc4, od4, .func (PySem.W.fnOf "_law_unlike" "_law_unlike" (defArgs (top bd 11)) (defBody (top bd 11)) (defScope (top bd 11)) .none kV4 dc4 pm4 an4 cd4 ct4), sl4⟩) (c4 : PySem.W.codeIn K cd4 "_law_unlike" = true) (k4 : PySem.W.keepIn K (.ref f4) = true)
    (a5 : PySem.W.nsIn K mainGlobals "_law_both" = some (some (.ref f5))) (l5 : K.lookup f5 = some ⟨oc5, od5, .func (PySem.W.fnOf "_law_both" "_law_both" (defArgs (top bd 12)) (defBody (top bd 12)) (defScope (top bd 12)) .none kV5 dc5 pm5 an5 cd5 ct5), sl5⟩) (c5 : PySem.W.codeIn K cd5 "_law_both" = true) (k5 : PySem.W.keepIn K (.ref f5) = true)
    (a6 : PySem.W.nsIn K mainGlobals "_law_first" = some (some (.ref f6))) (l6 : K.lookup f6 = some ⟨oc6, od6, .func (PySem.W.fnOf "_law_first" "_law_first" (defArgs (top bd 14)) (defBody (top bd 14)) (defScope (top bd 14)) .none kV6 dc6 pm6 an6 cd6 ct6), sl6⟩) (c6 : PySem.W.codeIn K cd6 "_law_first" = true) (k6 : PySem.W.keepIn K (.ref f6) = true)
    (a7 : PySem.W.nsIn K mainGlobals "_law_far" = some (some (.ref f7))) (l7 : K.lookup f7 = some ⟨oc7, od7, .func (PySem.W.fnOf "_law_far" "_law_far" (defArgs (top bd 13)) (defBody (top bd 13)) (defScope (top bd 13)) .none kV7 dc7 pm7 an7 cd7 ct7), sl7⟩) (c7 : PySem.W.codeIn K cd7 "_law_far" = true) (k7 : PySem.W.keepIn K (.ref f7) = true)
    (a8 : PySem.W.nsIn K mainGlobals "_law_take" = some (some (.ref f8))) (l8 : K.lookup f8 = some ⟨oc8, od8, .func (PySem.W.fnOf "_law_take" "_law_take" (defArgs (top bd 7)) (defBody (top bd 7)) (defScope (top bd 7)) .none kV8 dc8 pm8 an8 cd8 ct8), sl8⟩) (c8 : PySem.W.codeIn K cd8 "_law_take" = true) (k8 : PySem.W.keepIn K (.ref f8) = true)
    (a9 : PySem.W.nsIn K mainGlobals "_law_near" = some (some (.ref f9))) (l9 : K.lookup f9 = some ⟨oc9, od9, .func (PySem.W.fnOf "_law_near" "_law_near" (defArgs (top bd 9)) (defBody (top bd 9)) (defScope (top bd 9)) .none kV9 dc9 pm9 an9 cd9 ct9), sl9⟩) (c9 : PySem.W.codeIn K cd9 "_law_near" = true) (k9 : PySem.W.keepIn K (.ref f9) = true)
    (a10 : PySem.W.nsIn K mainGlobals "_law_cell" = some (some (.ref f10))) (l10 : K.lookup f10 = some ⟨oc10, od10, .func (PySem.W.fnOf "_law_cell" "_law_cell" (defArgs (top bd 8)) (defBody (top bd 8)) (defScope (top bd 8)) .none kV10 dc10 pm10 an10 cd10 ct10), sl10⟩) (c10 : PySem.W.codeIn K cd10 "_law_cell" = true) (k10 : PySem.W.keepIn K (.ref f10) = true)
    (a11 : PySem.W.nsIn K mainGlobals "_law_machine" = some (some (.ref f11))) (l11 : K.lookup f11 = some ⟨oc11, od11, .func (PySem.W.fnOf "_law_machine" "_law_machine" (defArgs (top bd 10)) (defBody (top bd 10)) (defScope (top bd 10)) .none kV11 dc11 pm11 an11 cd11 ct11), sl11⟩) (c11 : PySem.W.codeIn K cd11 "_law_machine" = true) (k11 : PySem.W.keepIn K (.ref f11) = true)
    (a12 : PySem.W.nsIn K mainGlobals "law" = some (some (.ref f12))) (l12 : K.lookup f12 = some ⟨oc12, od12, .func (PySem.W.fnOf "law" "law" (defArgs (top bd 15)) (defBody (top bd 15)) (defScope (top bd 15)) .none kV12 dc12 pm12 an12 cd12 ct12), sl12⟩) (c12 : PySem.W.codeIn K cd12 "law" = true) (k12 : PySem.W.keepIn K (.ref f12) = true)
    (z_len : PySem.W.nsIn K mainGlobals "len" = some none)
    (z_range : PySem.W.nsIn K mainGlobals "range" = some none)
    (z_any : PySem.W.nsIn K mainGlobals "any" = some none)
    (z_abs : PySem.W.nsIn K mainGlobals "abs" = some none)
    (z_tuple : PySem.W.nsIn K mainGlobals "tuple" = some none)
    (z_repr : PySem.W.nsIn K mainGlobals "repr" = some none) :
    ∃ fd : FuncData, (∀ (s : Shared) (v : Value), BindsTo s fd ⟨[v], []⟩ [("_law_script", v)]) ∧ ∀ base : Heap, K.In base → base.Ns mainGlobals mg → FnOk l.prog w K mg base CX0 5 fa fd ["_law_script"] (sp3 K 1 m_law) := by
  have y_len := PySem.W.mg_none_of X G z_len
  have y_range := PySem.W.mg_none_of X G z_range
  have y_any := PySem.W.mg_none_of X G z_any
  have y_abs := PySem.W.mg_none_of X G z_abs
  have y_tuple := PySem.W.mg_none_of X G z_tuple
  have y_repr := PySem.W.mg_none_of X G z_repr
  have yf_say_unlike : Fnc K mg "say_unlike" := ⟨f1, _, a1, l1, PySem.W.mg_of X G a1⟩
  have e := hfa.symm.trans (PySem.W.mg_of X G a12)
  cases e
  have F0 := fun_mk (st := top bd 3) l0 c0 k0
  have F1 := fun_mk (st := top bd 4) l1 c1 k1
  have F2 := fun_mk (st := top bd 1) l2 c2 k2
  have F3 := fun_mk (st := top bd 5) l3 c3 k3
  have F4 := fun_mk (st := top bd 11) l4 c4 k4
  have F5 := fun_mk (st := top bd 12) l5 c5 k5
  have F6 := fun_mk (st := top bd 14) l6 c6 k6
  have F7 := fun_mk (st := top bd 13) l7 c7 k7
  have F8 := fun_mk (st := top bd 7) l8 c8 k8
  have F9 := fun_mk (st := top bd 9) l9 c9 k9
  have F10 := fun_mk (st := top bd 8) l10 c10 k10
  have F11 := fun_mk (st := top bd 10) l11 c11 k11
  have F12 := fun_mk (st := top bd 15) l12 c12 k12
  refine ⟨PySem.W.fnOf "law" "law" (defArgs (top bd 15)) (defBody (top bd 15)) (defScope (top bd 15)) .none kV12 dc12 pm12 an12 cd12 ct12, fun s v => .of_eq rfl, fun base _ _ => ?_⟩
  have g0 : Has l.prog w K mg base "answers_unlike" 1 2 m_answers_unlike := h_m_answers_unlike F0 (PySem.W.mg_of X G a0)
  have g1 : Has l.prog w K mg base "say_unlike" 2 2 m_say_unlike := h_m_say_unlike F1 (PySem.W.mg_of X G a1) g0
  have g2 : Has l.prog w K mg base "walk_both" 3 4 m_walk_both := h_m_walk_both F2 (PySem.W.mg_of X G a2) y_len y_range g1 yf_say_unlike
  have g3 : Has l.prog w K mg base "parting" 4 3 m_parting := h_m_parting F3 (PySem.W.mg_of X G a3) g2 yf_say_unlike
  have g4 : Has l.prog w K mg base "_law_unlike" 1 4 m_law_unlike := h_m_law_unlike F4 (PySem.W.mg_of X G a4)
  have g5 : Has l.prog w K mg base "_law_both" 1 4 m_law_both := h_m_law_both F5 (PySem.W.mg_of X G a5)
  have g6 : Has l.prog w K mg base "_law_first" 2 4 m_law_first := h_m_law_first F6 (PySem.W.mg_of X G a6) y_range g4 g5
  have g7 : Has l.prog w K mg base "_law_far" 2 1 m_law_far := h_m_law_far F7 (PySem.W.mg_of X G a7) y_range y_any y_len g5 g4
  have g8 : Has l.prog w K mg base "_law_take" 1 2 m_law_take := h_m_law_take F8 (PySem.W.mg_of X G a8) y_len y_abs
  have g9 : Has l.prog w K mg base "_law_near" 2 4 m_law_near := h_m_law_near F9 (PySem.W.mg_of X G a9) y_tuple g8
  have g10 : Has l.prog w K mg base "_law_cell" 2 4 m_law_cell := h_m_law_cell F10 (PySem.W.mg_of X G a10) g8
  have g11 : Has l.prog w K mg base "_law_machine" 3 2 m_law_machine := h_m_law_machine F11 (PySem.W.mg_of X G a11) y_tuple y_range g8 g9 g10
  exact law_fn F12 y_repr y_range y_len g3 g6 g7 g11
theorem walk {l : PySem.W.OpenLaw} {q : Program} {loose : List Str} {XP : (Str → Option Value) → Heap → Prop} {YP : World → Heap → Prop} {d : DefRec} {K : Params → PySem.W.Frag} (hn : l.most = some 63) (hdf : d.params.defaults = [])
    (hY : ∀ (w : World) (h : Heap), YP w h → (K w.params).In h)
    (F : ∀ (w : World) (mg : Str → Option Value) (fa : Addr) (h : Heap), (K w.params).In h → h.Ns mainGlobals mg → mg d.name = some (.ref fa) →
      ∃ fd : FuncData, (∀ (s : Shared) (u : Value), BindsTo s fd ⟨[u], []⟩ [("_law_script", u)]) ∧ ∀ base : Heap, (K w.params).In base → base.Ns mainGlobals mg → FnOk l.prog w (K w.params) mg base CX0 5 fa fd ["_law_script"] (sp3 (K w.params) 1 m_law))
    (hlaw : ∀ ns : List Int, ns.length ≤ 63 → ∃ S', m_law [.ref 0] [.flst (ns.map D.int)] = some (.bl true, S')) :
    PySem.W.WalkO q loose XP YP l.row.toRowW d [] (fun f vs => PySem.call f vs) :=
  L2.walk_of (n := 63) (k := 5) (x := "_law_script") (CX := fun _ => CX0) (sp := fun w => sp3 (K w.params) 1 m_law) hn (by decide) hdf ⟨rfl, by decide, by decide, rfl⟩ hY F (fun _ _ a ns hl hO hS => law_sp hO hS (hlaw ns hl)) fun _ _ _ _ _ z => z
end G
end
set_option Elab.async false
set_option maxHeartbeats 4000000
set_option maxRecDepth 100000
namespace M
open PySem L3 G
def St (ns : List Int) (at' r : Int) (rest : Sto) : Sto := .flst (ns.map .int) :: .lst [.ref 0, .int at', .int r] :: rest
section
variable {ns : List Int} {a r x : Int} {rest : Sto} {o : Ob} {k : Nat}
theorem st_0 : lstOf (St ns a r rest) 0 = some (ns.map .int) := rfl
theorem st_1 : lstOf (St ns a r rest) 1 = some [.ref 0, .int a, .int r] := rfl
theorem st_2 : lstOf (St ns a r rest) (k + 2) = lstOf rest k := by unfold lstOf St; simp
theorem st_get : (St ns a r rest)[k + 2]? = rest[k]? := by unfold St; simp
theorem st_set : (St ns a r rest).set (k + 2) o = St ns a r (rest.set k o) := rfl
theorem st_push : St ns a r rest ++ [o] = St ns a r (rest ++ [o]) := rfl
theorem st_len : (St ns a r rest).length = rest.length + 2 := rfl
theorem st_w2 : setIx (.ref 1) (.int 2) (.int x) (St ns a r rest) = some (St ns a x rest) := rfl
theorem st_w1 : setIx (.ref 1) (.int 1) (.int x) (St ns a r rest) = some (St ns x r rest) := rfl
end
abbrev primes : List D := [.int 2147483647, .int 2147483629, .int 2147483587, .int 2147483579, .int 2147483563, .int 2147483549, .int 2147483543]
theorem primes_at (i : Int) (h0 : 0 ≤ i) (h1 : i < 7) : ∃ p, L2.atI primes i = some (.int p) ∧ 0 < p ∧ p < 2147483648 := by
  have : i = 0 ∨ i = 1 ∨ i = 2 ∨ i = 3 ∨ i = 4 ∨ i = 5 ∨ i = 6 := by omega
  rcases this with rfl | rfl | rfl | rfl | rfl | rfl | rfl <;> exact ⟨_, rfl, by decide, by decide⟩
theorem take_ok (ns : List Int) (at' r m : Int) (rest : Sto) (ha : 0 ≤ at') (hb : at' < 1000000000) (hr : 0 ≤ r) (hm : 0 < m) (hm2 : m < 1073741824) :
    Wo (m_law_take [.ref 1, .int m] (St ns at' r rest)) fun v S => ∃ d at2 r2 ex, v = .int d ∧ 0 ≤ d ∧ d < m ∧ S = St ns at2 r2 (rest ++ ex) ∧ 0 ≤ at2 ∧ at2 ≤ at' + 1 ∧ 0 ≤ r2 := by
  obtain ⟨p1, hp1, p1a, p1b⟩ := primes_at (at' % 7) (by omega) (by omega)
  obtain ⟨p2, hp2, p2a, p2b⟩ := primes_at ((at' + 3) % 7) (by omega) (by omega)
  have sz : 7 ≤ sizeLine := by decide
  have f5 : (0 : Int) ≤ 18 ∧ (18 : Int) ≤ 1000000 ∧ Int.natAbs 10 < 2 ^ 64 := by decide
  have f7 : (0 : Int) < 7 := by decide
  unfold m_law_take b_law_take
  by_cases hr0 : 0 < r
  · simp only [wo_run, List.map_cons, List.map_nil, List.length_cons, List.length_nil, Nat.reduceAdd, Nat.reduceSub, List.replicate, List.cons_append, List.nil_append]
    refine ws_cutO (fun _ _ => False) (fun v S => ∃ d at2 r2 ex, v = .int d ∧ 0 ≤ d ∧ d < m ∧ S = St ns at2 r2 (rest ++ ex) ∧ 0 ≤ at2 ∧ at2 ≤ at' + 1 ∧ 0 ≤ r2) ?_ (fun _ _ z => z.elim) (fun d _ _ o => o)
    simp only [wo_run, ws_seq, ws_if, wt_e, we_op, we_un, we_var, we_c, ws_asg, ws_ret, ws_drop, ws_next, ws_break, ws_cont, wg_name, wg_sub, wg_tup, wg_nil, wg_cons, wg_dput, we_call, we_methL, we_methS, wa_cons, wa_nil, wt_and, wt_or, wt_not, we_and, we_or, we_not, we_if, wo_I0, wo_I, wo_plusAI, wo_plusAT, we_slA, wp_none, wp_some, ex_int1, wo_slT, wo_intAB, wo_times, wo_ixT, wo_ixL, wo_ixAT, wo_ixAL, wo_ixAS, wo_lenT, wo_lenL, wo_lenAT, wo_lenAL, wo_lenAS, wo_abs, wo_intB, wo_tup, wo_lst, wo_tupleL, wo_eqI, wo_eqB, wo_eqSt, wo_neS, wo_neB, wo_neI, wo_is, wo_isnot, wo_str, wo_isI_bl, wo_isI_int, wo_isI_str, wo_isI_tup, wo_isI_non, isI_same, List.map_cons, List.map_nil, List.length_cons, List.length_nil, Nat.reduceAdd, Nat.reduceSub, List.replicate, List.cons_append, List.nil_append, List.getElem?_cons_zero, List.getElem?_cons_succ, List.set_cons_zero, List.set_cons_succ, ex_some, ex_some1, ex_bl, ex_int, at3_0, at3_1, at3_2, at2_0, at2_1, lstOf_last, decide_eq_true_eq, st_0, st_1, st_w1, st_w2, st_push, st_len, st_2, wo_times, decide_eq_true_eq, hr0, hm, hm2, if_true, true_and, and_self]
    refine .inr ⟨_, rfl, ?_⟩
    exact ⟨_, at', r / m, [], rfl, Int.emod_nonneg _ (by omega), Int.emod_lt_of_pos _ hm, by rw [List.append_nil], ha, by omega, Int.ediv_nonneg hr (by omega)⟩
  · have r0 : r = 0 := by omega
    subst r0
    simp only [wo_run, List.map_cons, List.map_nil, List.length_cons, List.length_nil, Nat.reduceAdd, Nat.reduceSub, List.replicate, List.cons_append, List.nil_append]
    refine ws_cut (fun l S => l = [some (.ref 1), some (.int m), none, none, none, none, none, none] ∧ S = St ns at' 0 rest) (by simp only [wo_run, ws_seq, ws_if, wt_e, we_op, we_un, we_var, we_c, ws_asg, ws_ret, ws_drop, ws_next, ws_break, ws_cont, wg_name, wg_sub, wg_tup, wg_nil, wg_cons, wg_dput, we_call, we_methL, we_methS, wa_cons, wa_nil, wt_and, wt_or, wt_not, we_and, we_or, we_not, we_if, wo_I0, wo_I, wo_plusAI, wo_plusAT, we_slA, wp_none, wp_some, ex_int1, wo_slT, wo_intAB, wo_times, wo_ixT, wo_ixL, wo_ixAT, wo_ixAL, wo_ixAS, wo_lenT, wo_lenL, wo_lenAT, wo_lenAL, wo_lenAS, wo_abs, wo_intB, wo_tup, wo_lst, wo_tupleL, wo_eqI, wo_eqB, wo_eqSt, wo_neS, wo_neB, wo_neI, wo_is, wo_isnot, wo_str, wo_isI_bl, wo_isI_int, wo_isI_str, wo_isI_tup, wo_isI_non, isI_same, List.map_cons, List.map_nil, List.length_cons, List.length_nil, Nat.reduceAdd, Nat.reduceSub, List.replicate, List.cons_append, List.nil_append, List.getElem?_cons_zero, List.getElem?_cons_succ, List.set_cons_zero, List.set_cons_succ, ex_some, ex_some1, ex_bl, ex_int, at3_0, at3_1, at3_2, at2_0, at2_1, lstOf_last, decide_eq_true_eq, st_0, st_1, st_w1, st_w2, st_push, st_len, st_2, decide_eq_true_eq, hr0, if_false, and_self]) ?_
    rintro l S ⟨rfl, rfl⟩
    refine ws_cut (fun l S => l = [some (.ref 1), some (.int m), none, some (.int at'), none, none, none, none] ∧ S = St ns at' 0 rest) (by simp only [wo_run, ws_seq, ws_if, wt_e, we_op, we_un, we_var, we_c, ws_asg, ws_ret, ws_drop, ws_next, ws_break, ws_cont, wg_name, wg_sub, wg_tup, wg_nil, wg_cons, wg_dput, we_call, we_methL, we_methS, wa_cons, wa_nil, wt_and, wt_or, wt_not, we_and, we_or, we_not, we_if, wo_I0, wo_I, wo_plusAI, wo_plusAT, we_slA, wp_none, wp_some, ex_int1, wo_slT, wo_intAB, wo_times, wo_ixT, wo_ixL, wo_ixAT, wo_ixAL, wo_ixAS, wo_lenT, wo_lenL, wo_lenAT, wo_lenAL, wo_lenAS, wo_abs, wo_intB, wo_tup, wo_lst, wo_tupleL, wo_eqI, wo_eqB, wo_eqSt, wo_neS, wo_neB, wo_neI, wo_is, wo_isnot, wo_str, wo_isI_bl, wo_isI_int, wo_isI_str, wo_isI_tup, wo_isI_non, isI_same, List.map_cons, List.map_nil, List.length_cons, List.length_nil, Nat.reduceAdd, Nat.reduceSub, List.replicate, List.cons_append, List.nil_append, List.getElem?_cons_zero, List.getElem?_cons_succ, List.set_cons_zero, List.set_cons_succ, ex_some, ex_some1, ex_bl, ex_int, at3_0, at3_1, at3_2, at2_0, at2_1, lstOf_last, decide_eq_true_eq, st_0, st_1, st_w1, st_w2, st_push, st_len, st_2, and_self]) ?_
    rintro l S ⟨rfl, rfl⟩
    refine ws_cut (fun l S => l = [some (.ref 1), some (.int m), none, some (.int at'), none, none, none, none] ∧ S = St ns (at' + 1) 0 rest) (by simp only [wo_run, ws_seq, ws_if, wt_e, we_op, we_un, we_var, we_c, ws_asg, ws_ret, ws_drop, ws_next, ws_break, ws_cont, wg_name, wg_sub, wg_tup, wg_nil, wg_cons, wg_dput, we_call, we_methL, we_methS, wa_cons, wa_nil, wt_and, wt_or, wt_not, we_and, we_or, we_not, we_if, wo_I0, wo_I, wo_plusAI, wo_plusAT, we_slA, wp_none, wp_some, ex_int1, wo_slT, wo_intAB, wo_times, wo_ixT, wo_ixL, wo_ixAT, wo_ixAL, wo_ixAS, wo_lenT, wo_lenL, wo_lenAT, wo_lenAL, wo_lenAS, wo_abs, wo_intB, wo_tup, wo_lst, wo_tupleL, wo_eqI, wo_eqB, wo_eqSt, wo_neS, wo_neB, wo_neI, wo_is, wo_isnot, wo_str, wo_isI_bl, wo_isI_int, wo_isI_str, wo_isI_tup, wo_isI_non, isI_same, List.map_cons, List.map_nil, List.length_cons, List.length_nil, Nat.reduceAdd, Nat.reduceSub, List.replicate, List.cons_append, List.nil_append, List.getElem?_cons_zero, List.getElem?_cons_succ, List.set_cons_zero, List.set_cons_succ, ex_some, ex_some1, ex_bl, ex_int, at3_0, at3_1, at3_2, at2_0, at2_1, lstOf_last, decide_eq_true_eq, st_0, st_1, st_w1, st_w2, st_push, st_len, st_2, and_self]) ?_
    rintro l S ⟨rfl, rfl⟩
    refine ws_cut (fun l S => l = [some (.ref 1), some (.int m), none, some (.int at'), some (.int 7), none, none, none] ∧ S = St ns (at' + 1) 0 rest) (by simp only [wo_run, ws_seq, ws_if, wt_e, we_op, we_un, we_var, we_c, ws_asg, ws_ret, ws_drop, ws_next, ws_break, ws_cont, wg_name, wg_sub, wg_tup, wg_nil, wg_cons, wg_dput, we_call, we_methL, we_methS, wa_cons, wa_nil, wt_and, wt_or, wt_not, we_and, we_or, we_not, we_if, wo_I0, wo_I, wo_plusAI, wo_plusAT, we_slA, wp_none, wp_some, ex_int1, wo_slT, wo_intAB, wo_times, wo_ixT, wo_ixL, wo_ixAT, wo_ixAL, wo_ixAS, wo_lenT, wo_lenL, wo_lenAT, wo_lenAL, wo_lenAS, wo_abs, wo_intB, wo_tup, wo_lst, wo_tupleL, wo_eqI, wo_eqB, wo_eqSt, wo_neS, wo_neB, wo_neI, wo_is, wo_isnot, wo_str, wo_isI_bl, wo_isI_int, wo_isI_str, wo_isI_tup, wo_isI_non, isI_same, List.map_cons, List.map_nil, List.length_cons, List.length_nil, Nat.reduceAdd, Nat.reduceSub, List.replicate, List.cons_append, List.nil_append, List.getElem?_cons_zero, List.getElem?_cons_succ, List.set_cons_zero, List.set_cons_succ, ex_some, ex_some1, ex_bl, ex_int, at3_0, at3_1, at3_2, at2_0, at2_1, lstOf_last, decide_eq_true_eq, st_0, st_1, st_w1, st_w2, st_push, st_len, st_2, and_self]) ?_
    rintro l S ⟨rfl, rfl⟩
    refine ws_cut (fun l S => ∃ c, l = [some (.ref 1), some (.int m), none, some (.int at'), some (.int c), none, none, none] ∧ S = St ns (at' + 1) 0 rest) ?_ ?_
    · by_cases hl : 0 < (ns.length : Int)
      · obtain ⟨x, h1, h2⟩ := atI_in (ns.map D.int) (at' % (ns.length : Int)) (Int.emod_nonneg _ (by omega)) (by rw [List.length_map]; exact Int.emod_lt_of_pos _ hl)
        obtain ⟨c, _, rfl⟩ := List.mem_map.mp h2
        simp only [wo_run, ws_seq, ws_if, wt_e, we_op, we_un, we_var, we_c, ws_asg, ws_ret, ws_drop, ws_next, ws_break, ws_cont, wg_name, wg_sub, wg_tup, wg_nil, wg_cons, wg_dput, we_call, we_methL, we_methS, wa_cons, wa_nil, wt_and, wt_or, wt_not, we_and, we_or, we_not, we_if, wo_I0, wo_I, wo_plusAI, wo_plusAT, we_slA, wp_none, wp_some, ex_int1, wo_slT, wo_intAB, wo_times, wo_ixT, wo_ixL, wo_ixAT, wo_ixAL, wo_ixAS, wo_lenT, wo_lenL, wo_lenAT, wo_lenAL, wo_lenAS, wo_abs, wo_intB, wo_tup, wo_lst, wo_tupleL, wo_eqI, wo_eqB, wo_eqSt, wo_neS, wo_neB, wo_neI, wo_is, wo_isnot, wo_str, wo_isI_bl, wo_isI_int, wo_isI_str, wo_isI_tup, wo_isI_non, isI_same, List.map_cons, List.map_nil, List.length_cons, List.length_nil, Nat.reduceAdd, Nat.reduceSub, List.replicate, List.cons_append, List.nil_append, List.getElem?_cons_zero, List.getElem?_cons_succ, List.set_cons_zero, List.set_cons_succ, ex_some, ex_some1, ex_bl, ex_int, at3_0, at3_1, at3_2, at2_0, at2_1, lstOf_last, decide_eq_true_eq, st_0, st_1, st_w1, st_w2, st_push, st_len, st_2, decide_eq_true_eq, hl, h1, List.length_map, if_true, true_and, and_self]
        exact ⟨c, rfl, (by first | rfl | trivial)⟩
      · simp only [wo_run, ws_seq, ws_if, wt_e, we_op, we_un, we_var, we_c, ws_asg, ws_ret, ws_drop, ws_next, ws_break, ws_cont, wg_name, wg_sub, wg_tup, wg_nil, wg_cons, wg_dput, we_call, we_methL, we_methS, wa_cons, wa_nil, wt_and, wt_or, wt_not, we_and, we_or, we_not, we_if, wo_I0, wo_I, wo_plusAI, wo_plusAT, we_slA, wp_none, wp_some, ex_int1, wo_slT, wo_intAB, wo_times, wo_ixT, wo_ixL, wo_ixAT, wo_ixAL, wo_ixAS, wo_lenT, wo_lenL, wo_lenAT, wo_lenAL, wo_lenAS, wo_abs, wo_intB, wo_tup, wo_lst, wo_tupleL, wo_eqI, wo_eqB, wo_eqSt, wo_neS, wo_neB, wo_neI, wo_is, wo_isnot, wo_str, wo_isI_bl, wo_isI_int, wo_isI_str, wo_isI_tup, wo_isI_non, isI_same, List.map_cons, List.map_nil, List.length_cons, List.length_nil, Nat.reduceAdd, Nat.reduceSub, List.replicate, List.cons_append, List.nil_append, List.getElem?_cons_zero, List.getElem?_cons_succ, List.set_cons_zero, List.set_cons_succ, ex_some, ex_some1, ex_bl, ex_int, at3_0, at3_1, at3_2, at2_0, at2_1, lstOf_last, decide_eq_true_eq, st_0, st_1, st_w1, st_w2, st_push, st_len, st_2, decide_eq_true_eq, hl, List.length_map, if_false, true_and, and_true]
        exact ⟨7, rfl⟩
    rintro l S ⟨c, rfl, rfl⟩
    by_cases hc : at' < (ns.length : Int) ∧ 10 ^ Int.toNat 18 ≤ (if c < 0 then -c else c)
    · obtain ⟨hc1, hc2⟩ := hc
      simp only [wo_run, ws_seq, ws_if, wt_e, we_op, we_un, we_var, we_c, ws_asg, ws_ret, ws_drop, ws_next, ws_break, ws_cont, wg_name, wg_sub, wg_tup, wg_nil, wg_cons, wg_dput, we_call, we_methL, we_methS, wa_cons, wa_nil, wt_and, wt_or, wt_not, we_and, we_or, we_not, we_if, wo_I0, wo_I, wo_plusAI, wo_plusAT, we_slA, wp_none, wp_some, ex_int1, wo_slT, wo_intAB, wo_times, wo_ixT, wo_ixL, wo_ixAT, wo_ixAL, wo_ixAS, wo_lenT, wo_lenL, wo_lenAT, wo_lenAL, wo_lenAS, wo_abs, wo_intB, wo_tup, wo_lst, wo_tupleL, wo_eqI, wo_eqB, wo_eqSt, wo_neS, wo_neB, wo_neI, wo_is, wo_isnot, wo_str, wo_isI_bl, wo_isI_int, wo_isI_str, wo_isI_tup, wo_isI_non, isI_same, List.map_cons, List.map_nil, List.length_cons, List.length_nil, Nat.reduceAdd, Nat.reduceSub, List.replicate, List.cons_append, List.nil_append, List.getElem?_cons_zero, List.getElem?_cons_succ, List.set_cons_zero, List.set_cons_succ, ex_some, ex_some1, ex_bl, ex_int, at3_0, at3_1, at3_2, at2_0, at2_1, lstOf_last, decide_eq_true_eq, st_0, st_1, st_w1, st_w2, st_push, st_len, st_2, decide_eq_true_eq, hc1, hc2, List.length_map, hm, hm2, if_true, true_and, and_self, f5]
      exact ⟨_, at' + 1, _, [], rfl, Int.emod_nonneg _ (by omega), Int.emod_lt_of_pos _ hm, by rw [List.append_nil], by omega, by omega, Int.ediv_nonneg (by split <;> omega) (by omega)⟩
    refine ws_cut (fun l S => l = [some (.ref 1), some (.int m), none, some (.int at'), some (.int c), none, none, none] ∧ S = St ns (at' + 1) 0 rest) ?_ ?_
    · by_cases hc1 : at' < (ns.length : Int)
      · have hc2 : ¬ 10 ^ Int.toNat 18 ≤ (if c < 0 then -c else c) := fun h => hc ⟨hc1, h⟩
        simp only [wo_run, ws_seq, ws_if, wt_e, we_op, we_un, we_var, we_c, ws_asg, ws_ret, ws_drop, ws_next, ws_break, ws_cont, wg_name, wg_sub, wg_tup, wg_nil, wg_cons, wg_dput, we_call, we_methL, we_methS, wa_cons, wa_nil, wt_and, wt_or, wt_not, we_and, we_or, we_not, we_if, wo_I0, wo_I, wo_plusAI, wo_plusAT, we_slA, wp_none, wp_some, ex_int1, wo_slT, wo_intAB, wo_times, wo_ixT, wo_ixL, wo_ixAT, wo_ixAL, wo_ixAS, wo_lenT, wo_lenL, wo_lenAT, wo_lenAL, wo_lenAS, wo_abs, wo_intB, wo_tup, wo_lst, wo_tupleL, wo_eqI, wo_eqB, wo_eqSt, wo_neS, wo_neB, wo_neI, wo_is, wo_isnot, wo_str, wo_isI_bl, wo_isI_int, wo_isI_str, wo_isI_tup, wo_isI_non, isI_same, List.map_cons, List.map_nil, List.length_cons, List.length_nil, Nat.reduceAdd, Nat.reduceSub, List.replicate, List.cons_append, List.nil_append, List.getElem?_cons_zero, List.getElem?_cons_succ, List.set_cons_zero, List.set_cons_succ, ex_some, ex_some1, ex_bl, ex_int, at3_0, at3_1, at3_2, at2_0, at2_1, lstOf_last, decide_eq_true_eq, st_0, st_1, st_w1, st_w2, st_push, st_len, st_2, decide_eq_true_eq, hc1, hc2, List.length_map, if_true, if_false, true_and, and_self, f5]
      · simp only [wo_run, ws_seq, ws_if, wt_e, we_op, we_un, we_var, we_c, ws_asg, ws_ret, ws_drop, ws_next, ws_break, ws_cont, wg_name, wg_sub, wg_tup, wg_nil, wg_cons, wg_dput, we_call, we_methL, we_methS, wa_cons, wa_nil, wt_and, wt_or, wt_not, we_and, we_or, we_not, we_if, wo_I0, wo_I, wo_plusAI, wo_plusAT, we_slA, wp_none, wp_some, ex_int1, wo_slT, wo_intAB, wo_times, wo_ixT, wo_ixL, wo_ixAT, wo_ixAL, wo_ixAS, wo_lenT, wo_lenL, wo_lenAT, wo_lenAL, wo_lenAS, wo_abs, wo_intB, wo_tup, wo_lst, wo_tupleL, wo_eqI, wo_eqB, wo_eqSt, wo_neS, wo_neB, wo_neI, wo_is, wo_isnot, wo_str, wo_isI_bl, wo_isI_int, wo_isI_str, wo_isI_tup, wo_isI_non, isI_same, List.map_cons, List.map_nil, List.length_cons, List.length_nil, Nat.reduceAdd, Nat.reduceSub, List.replicate, List.cons_append, List.nil_append, List.getElem?_cons_zero, List.getElem?_cons_succ, List.set_cons_zero, List.set_cons_succ, ex_some, ex_some1, ex_bl, ex_int, at3_0, at3_1, at3_2, at2_0, at2_1, lstOf_last, decide_eq_true_eq, st_0, st_1, st_w1, st_w2, st_push, st_len, st_2, decide_eq_true_eq, hc1, List.length_map, if_false, true_and, and_self, Bool.false_eq_true]
    rintro l S ⟨rfl, rfl⟩
    refine ws_cut (fun l S => l = [some (.ref 1), some (.int m), none, some (.int at'), some (.int c), some (.ref (rest.length + 2)), none, none] ∧ S = St ns (at' + 1) 0 (rest ++ [.lst primes])) (by simp only [wo_run, ws_seq, ws_if, wt_e, we_op, we_un, we_var, we_c, ws_asg, ws_ret, ws_drop, ws_next, ws_break, ws_cont, wg_name, wg_sub, wg_tup, wg_nil, wg_cons, wg_dput, we_call, we_methL, we_methS, wa_cons, wa_nil, wt_and, wt_or, wt_not, we_and, we_or, we_not, we_if, wo_I0, wo_I, wo_plusAI, wo_plusAT, we_slA, wp_none, wp_some, ex_int1, wo_slT, wo_intAB, wo_times, wo_ixT, wo_ixL, wo_ixAT, wo_ixAL, wo_ixAS, wo_lenT, wo_lenL, wo_lenAT, wo_lenAL, wo_lenAS, wo_abs, wo_intB, wo_tup, wo_lst, wo_tupleL, wo_eqI, wo_eqB, wo_eqSt, wo_neS, wo_neB, wo_neI, wo_is, wo_isnot, wo_str, wo_isI_bl, wo_isI_int, wo_isI_str, wo_isI_tup, wo_isI_non, isI_same, List.map_cons, List.map_nil, List.length_cons, List.length_nil, Nat.reduceAdd, Nat.reduceSub, List.replicate, List.cons_append, List.nil_append, List.getElem?_cons_zero, List.getElem?_cons_succ, List.set_cons_zero, List.set_cons_succ, ex_some, ex_some1, ex_bl, ex_int, at3_0, at3_1, at3_2, at2_0, at2_1, lstOf_last, decide_eq_true_eq, st_0, st_1, st_w1, st_w2, st_push, st_len, st_2, sz, and_self]) ?_
    rintro l S ⟨rfl, rfl⟩
    refine ws_cut (fun l S => l = [some (.ref 1), some (.int m), none, some (.int at'), some (.int c), some (.ref (rest.length + 2)), some (.int p1), none] ∧ S = St ns (at' + 1) 0 (rest ++ [.lst primes])) (by simp only [wo_run, ws_seq, ws_if, wt_e, we_op, we_un, we_var, we_c, ws_asg, ws_ret, ws_drop, ws_next, ws_break, ws_cont, wg_name, wg_sub, wg_tup, wg_nil, wg_cons, wg_dput, we_call, we_methL, we_methS, wa_cons, wa_nil, wt_and, wt_or, wt_not, we_and, we_or, we_not, we_if, wo_I0, wo_I, wo_plusAI, wo_plusAT, we_slA, wp_none, wp_some, ex_int1, wo_slT, wo_intAB, wo_times, wo_ixT, wo_ixL, wo_ixAT, wo_ixAL, wo_ixAS, wo_lenT, wo_lenL, wo_lenAT, wo_lenAL, wo_lenAS, wo_abs, wo_intB, wo_tup, wo_lst, wo_tupleL, wo_eqI, wo_eqB, wo_eqSt, wo_neS, wo_neB, wo_neI, wo_is, wo_isnot, wo_str, wo_isI_bl, wo_isI_int, wo_isI_str, wo_isI_tup, wo_isI_non, isI_same, List.map_cons, List.map_nil, List.length_cons, List.length_nil, Nat.reduceAdd, Nat.reduceSub, List.replicate, List.cons_append, List.nil_append, List.getElem?_cons_zero, List.getElem?_cons_succ, List.set_cons_zero, List.set_cons_succ, ex_some, ex_some1, ex_bl, ex_int, at3_0, at3_1, at3_2, at2_0, at2_1, lstOf_last, decide_eq_true_eq, st_0, st_1, st_w1, st_w2, st_push, st_len, st_2, hp1, f7, decide_true, true_and, and_self]) ?_
    rintro l S ⟨rfl, rfl⟩
    have q1 : 0 ≤ c % p1 := Int.emod_nonneg _ (by omega)
    have q2 : c % p1 < p1 := Int.emod_lt_of_pos _ p1a
    have f1 : (-2 ^ 64 : Int) < 40009 ∧ (40009 : Int) < 2 ^ 64 := by decide
    have f4 : (-2 ^ 64 : Int) < 48271 ∧ (48271 : Int) < 2 ^ 64 := by decide
    refine ws_cut (fun l S => ∃ n1 : Int, n1.natAbs < 2 ^ 64 ∧ l = [some (.ref 1), some (.int m), none, some (.int at'), some (.int c), some (.ref (rest.length + 2)), some (.int p1), some (.int n1)] ∧ S = St ns (at' + 1) 0 (rest ++ [.lst primes])) ?_ ?_
    · simp only [wo_run, ws_seq, ws_if, wt_e, we_op, we_un, we_var, we_c, ws_asg, ws_ret, ws_drop, ws_next, ws_break, ws_cont, wg_name, wg_sub, wg_tup, wg_nil, wg_cons, wg_dput, we_call, we_methL, we_methS, wa_cons, wa_nil, wt_and, wt_or, wt_not, we_and, we_or, we_not, we_if, wo_I0, wo_I, wo_plusAI, wo_plusAT, we_slA, wp_none, wp_some, ex_int1, wo_slT, wo_intAB, wo_times, wo_ixT, wo_ixL, wo_ixAT, wo_ixAL, wo_ixAS, wo_lenT, wo_lenL, wo_lenAT, wo_lenAL, wo_lenAS, wo_abs, wo_intB, wo_tup, wo_lst, wo_tupleL, wo_eqI, wo_eqB, wo_eqSt, wo_neS, wo_neB, wo_neI, wo_is, wo_isnot, wo_str, wo_isI_bl, wo_isI_int, wo_isI_str, wo_isI_tup, wo_isI_non, isI_same, List.map_cons, List.map_nil, List.length_cons, List.length_nil, Nat.reduceAdd, Nat.reduceSub, List.replicate, List.cons_append, List.nil_append, List.getElem?_cons_zero, List.getElem?_cons_succ, List.set_cons_zero, List.set_cons_succ, ex_some, ex_some1, ex_bl, ex_int, at3_0, at3_1, at3_2, at2_0, at2_1, lstOf_last, decide_eq_true_eq, st_0, st_1, st_w1, st_w2, st_push, st_len, st_2, wo_times, f1, f4, p1a, decide_true, true_or, or_true, true_and, and_true]
      have q3 := Int.emod_nonneg (c % p1 * 48271 + 40009 * at' + 21) (b := p1) (by omega)
      have q4 := Int.emod_lt_of_pos (c % p1 * 48271 + 40009 * at' + 21) p1a
      exact ⟨_, by omega, rfl⟩
    rintro l S ⟨n1, hn1, rfl, rfl⟩
    have f2 : (-2 ^ 64 : Int) < at' ∧ at' < 2 ^ 64 := by omega
    have f3 : (-2 ^ 64 : Int) < 69621 ∧ (69621 : Int) < 2 ^ 64 := by decide
    have f9 : (0 : Int) ≤ 3 ∧ (3 : Int) ≤ 1000000 ∧ n1.natAbs < 2 ^ 64 := ⟨by decide, by decide, hn1⟩
    refine ws_cut (fun l S => ∃ n2 : Int, l = [some (.ref 1), some (.int m), none, some (.int at'), some (.int c), some (.ref (rest.length + 2)), some (.int p1), some (.int n2)] ∧ S = St ns (at' + 1) 0 (rest ++ [.lst primes])) ?_ ?_
    · simp only [wo_run, ws_seq, ws_if, wt_e, we_op, we_un, we_var, we_c, ws_asg, ws_ret, ws_drop, ws_next, ws_break, ws_cont, wg_name, wg_sub, wg_tup, wg_nil, wg_cons, wg_dput, we_call, we_methL, we_methS, wa_cons, wa_nil, wt_and, wt_or, wt_not, we_and, we_or, we_not, we_if, wo_I0, wo_I, wo_plusAI, wo_plusAT, we_slA, wp_none, wp_some, ex_int1, wo_slT, wo_intAB, wo_times, wo_ixT, wo_ixL, wo_ixAT, wo_ixAL, wo_ixAS, wo_lenT, wo_lenL, wo_lenAT, wo_lenAL, wo_lenAS, wo_abs, wo_intB, wo_tup, wo_lst, wo_tupleL, wo_eqI, wo_eqB, wo_eqSt, wo_neS, wo_neB, wo_neI, wo_is, wo_isnot, wo_str, wo_isI_bl, wo_isI_int, wo_isI_str, wo_isI_tup, wo_isI_non, isI_same, List.map_cons, List.map_nil, List.length_cons, List.length_nil, Nat.reduceAdd, Nat.reduceSub, List.replicate, List.cons_append, List.nil_append, List.getElem?_cons_zero, List.getElem?_cons_succ, List.set_cons_zero, List.set_cons_succ, ex_some, ex_some1, ex_bl, ex_int, at3_0, at3_1, at3_2, at2_0, at2_1, lstOf_last, decide_eq_true_eq, st_0, st_1, st_w1, st_w2, st_push, st_len, st_2, wo_times, f2, f3, f9, f7, hp2, p2a, decide_true, true_or, or_true, true_and, and_true]
      exact ⟨_, rfl⟩
    rintro l S ⟨n2, rfl, rfl⟩
    have f6 : (0 : Int) < 64 ∧ (64 : Int) < 1073741824 := by decide
    simp only [wo_run, ws_seq, ws_if, wt_e, we_op, we_un, we_var, we_c, ws_asg, ws_ret, ws_drop, ws_next, ws_break, ws_cont, wg_name, wg_sub, wg_tup, wg_nil, wg_cons, wg_dput, we_call, we_methL, we_methS, wa_cons, wa_nil, wt_and, wt_or, wt_not, we_and, we_or, we_not, we_if, wo_I0, wo_I, wo_plusAI, wo_plusAT, we_slA, wp_none, wp_some, ex_int1, wo_slT, wo_intAB, wo_times, wo_ixT, wo_ixL, wo_ixAT, wo_ixAL, wo_ixAS, wo_lenT, wo_lenL, wo_lenAT, wo_lenAL, wo_lenAS, wo_abs, wo_intB, wo_tup, wo_lst, wo_tupleL, wo_eqI, wo_eqB, wo_eqSt, wo_neS, wo_neB, wo_neI, wo_is, wo_isnot, wo_str, wo_isI_bl, wo_isI_int, wo_isI_str, wo_isI_tup, wo_isI_non, isI_same, List.map_cons, List.map_nil, List.length_cons, List.length_nil, Nat.reduceAdd, Nat.reduceSub, List.replicate, List.cons_append, List.nil_append, List.getElem?_cons_zero, List.getElem?_cons_succ, List.set_cons_zero, List.set_cons_succ, ex_some, ex_some1, ex_bl, ex_int, at3_0, at3_1, at3_2, at2_0, at2_1, lstOf_last, decide_eq_true_eq, st_0, st_1, st_w1, st_w2, st_push, st_len, st_2, f6, hm, hm2, decide_true, true_and, and_self]
    exact ⟨_, at' + 1, 0, _, rfl, Int.emod_nonneg _ (by omega), Int.emod_lt_of_pos _ hm, rfl, by omega, by omega, by omega⟩
end M
set_option Elab.async false
set_option maxHeartbeats 4000000
set_option maxRecDepth 100000
namespace M
open PySem L3 G
def Pn (ns : List Int) (rest : Sto) (k : Int) (S : Sto) : Prop := ∃ at2 r2 ex, S = St ns at2 r2 (rest ++ ex) ∧ 0 ≤ at2 ∧ at2 ≤ k ∧ 0 ≤ r2
theorem take_pn (ns : List Int) (rest : Sto) (S : Sto) (k m : Int) (h : Pn ns rest k S) (hk : k < 1000000000) (hm : 0 < m) (hm2 : m < 1073741824) :
    Wo (m_law_take [.ref 1, .int m] S) fun v S' => (∃ d, v = .int d ∧ 0 ≤ d ∧ d < m) ∧ Pn ns rest (k + 1) S' := by
  obtain ⟨a, r, ex, rfl, h1, h2, h3⟩ := h
  refine (take_ok ns a r m (rest ++ ex) h1 (by omega) h3 hm hm2).mono ?_
  rintro v S' ⟨d, a2, r2, ex2, rfl, q1, q2, rfl, q3, q4, q5⟩
  exact ⟨⟨d, rfl, q1, q2⟩, a2, r2, ex ++ ex2, by rw [List.append_assoc], q3, by omega, q5⟩
theorem Pn.mono {ns : List Int} {rest : Sto} {k k' : Int} {S : Sto} (h : Pn ns rest k S) (hk : k ≤ k') : Pn ns rest k' S := by
  obtain ⟨a, r, ex, e, h1, h2, h3⟩ := h
  exact ⟨a, r, ex, e, h1, by omega, h3⟩
theorem Pn.start {ns : List Int} {rest ex : Sto} {k : Int} {S : Sto} (h : Pn ns (rest ++ ex) k S) : Pn ns rest k S := by
  obtain ⟨a, r, ex', e, h1, h2, h3⟩ := h
  exact ⟨a, r, ex ++ ex', by rw [e, List.append_assoc], h1, h2, h3⟩
def Or0 (many : Int) (g : D) : Prop := g = .non ∨ ∃ i, g = .int i ∧ 0 ≤ i ∧ i < many
def IsCell (many kinds : Int) (v : D) : Prop := ∃ g s, v = .tup [g, s] ∧ Or0 many g ∧ Or0 kinds s
theorem maybe (ns : List Int) (rest : Sto) (S : Sto) (k m sh : Int) (l : Lo) (i j : Nat) (h0 : l[0]? = some (some (.ref 1))) (h2 : l[2]? = some (some (.int sh))) (hi : l[i]? = some (some (.int m))) (h : Pn ns rest k S) (hk : k < 900000000) (hm : 0 < m) (hm2 : m < 1073741824) :
    Ws (sIf (tE (eOp dGe (eCall m_law_take (aCons (eVar 0) (aCons (eC (.int 8)) (aNil)))) (eVar 2))) (sAsg (eCall m_law_take (aCons (eVar 0) (aCons (eVar i) (aNil)))) (gName3 j)) (sNext)) l S
      fun f l1 S1 => f = .nx ∧ (l1 = l ∨ ∃ d, l1 = l.set j (some (.int d)) ∧ 0 ≤ d ∧ d < m) ∧ Pn ns rest (k + 2) S1 := by
  simp only [wo_run, ws_seq, ws_if, wt_e, we_op, we_un, we_var, we_c, ws_asg, ws_ret, ws_drop, ws_next, ws_break, ws_cont, wg_name, wg_sub, wg_tup, wg_nil, wg_cons, wg_dput, we_call, we_methL, we_methS, wa_cons, wa_nil, wt_and, wt_or, wt_not, we_and, we_or, we_not, we_if, wo_I0, wo_I, wo_plusAI, wo_plusAT, we_slA, wp_none, wp_some, ex_int1, wo_slT, wo_intAB, wo_times, wo_ixT, wo_ixL, wo_ixAT, wo_ixAL, wo_ixAS, wo_lenT, wo_lenL, wo_lenAT, wo_lenAL, wo_lenAS, wo_abs, wo_intB, wo_tup, wo_lst, wo_tupleL, wo_eqI, wo_eqB, wo_eqSt, wo_neS, wo_neB, wo_neI, wo_is, wo_isnot, wo_str, wo_isI_bl, wo_isI_int, wo_isI_str, wo_isI_tup, wo_isI_non, isI_same, List.map_cons, List.map_nil, List.length_cons, List.length_nil, Nat.reduceAdd, Nat.reduceSub, List.replicate, List.cons_append, List.nil_append, List.getElem?_cons_zero, List.getElem?_cons_succ, List.set_cons_zero, List.set_cons_succ, ex_some, ex_some1, ex_bl, ex_int, at3_0, at3_1, at3_2, at2_0, at2_1, lstOf_last, decide_eq_true_eq, st_0, st_1, st_w1, st_w2, st_push, st_len, st_2, h0, h2, hi]
  refine (take_pn ns rest S k 8 h (by omega) (by decide) (by decide)).mono ?_
  rintro v S' ⟨⟨d, rfl, q1, q2⟩, p⟩
  simp only [wo_run, ws_seq, ws_if, wt_e, we_op, we_un, we_var, we_c, ws_asg, ws_ret, ws_drop, ws_next, ws_break, ws_cont, wg_name, wg_sub, wg_tup, wg_nil, wg_cons, wg_dput, we_call, we_methL, we_methS, wa_cons, wa_nil, wt_and, wt_or, wt_not, we_and, we_or, we_not, we_if, wo_I0, wo_I, wo_plusAI, wo_plusAT, we_slA, wp_none, wp_some, ex_int1, wo_slT, wo_intAB, wo_times, wo_ixT, wo_ixL, wo_ixAT, wo_ixAL, wo_ixAS, wo_lenT, wo_lenL, wo_lenAT, wo_lenAL, wo_lenAS, wo_abs, wo_intB, wo_tup, wo_lst, wo_tupleL, wo_eqI, wo_eqB, wo_eqSt, wo_neS, wo_neB, wo_neI, wo_is, wo_isnot, wo_str, wo_isI_bl, wo_isI_int, wo_isI_str, wo_isI_tup, wo_isI_non, isI_same, List.map_cons, List.map_nil, List.length_cons, List.length_nil, Nat.reduceAdd, Nat.reduceSub, List.replicate, List.cons_append, List.nil_append, List.getElem?_cons_zero, List.getElem?_cons_succ, List.set_cons_zero, List.set_cons_succ, ex_some, ex_some1, ex_bl, ex_int, at3_0, at3_1, at3_2, at2_0, at2_1, lstOf_last, decide_eq_true_eq, st_0, st_1, st_w1, st_w2, st_push, st_len, st_2, h0, h2, hi]
  split
  · refine (take_pn ns rest S' (k + 1) m p (by omega) hm hm2).mono ?_
    rintro v S2 ⟨⟨e, rfl, q3, q4⟩, p2⟩
    exact ⟨by first | rfl | trivial, .inr ⟨e, rfl, q3, q4⟩, p2.mono (by omega)⟩
  · exact ⟨by first | rfl | trivial, by first | exact .inl rfl | exact .inl trivial | trivial, p.mono (by omega)⟩
theorem cell_ok (ns : List Int) (rest : Sto) (S : Sto) (k many share kinds : Int) (h : Pn ns rest k S) (hk : k < 800000000) (hm : 0 < many) (hm2 : many < 1073741824) (hn : 0 < kinds) (hn2 : kinds < 1073741824) :
    Wo (m_law_cell [.ref 1, .int many, .int share, .int kinds] S) fun v S' => IsCell many kinds v ∧ Pn ns rest (k + 4) S' := by
  unfold m_law_cell b_law_cell
  simp only [wo_run, List.map_cons, List.map_nil, List.length_cons, List.length_nil, Nat.reduceAdd, Nat.reduceSub, List.replicate, List.cons_append, List.nil_append]
  refine ws_cut (fun l S1 => l = [some (.ref 1), some (.int many), some (.int share), some (.int kinds), some .non, none] ∧ S1 = S) (by simp only [wo_run, ws_seq, ws_if, wt_e, we_op, we_un, we_var, we_c, ws_asg, ws_ret, ws_drop, ws_next, ws_break, ws_cont, wg_name, wg_sub, wg_tup, wg_nil, wg_cons, wg_dput, we_call, we_methL, we_methS, wa_cons, wa_nil, wt_and, wt_or, wt_not, we_and, we_or, we_not, we_if, wo_I0, wo_I, wo_plusAI, wo_plusAT, we_slA, wp_none, wp_some, ex_int1, wo_slT, wo_intAB, wo_times, wo_ixT, wo_ixL, wo_ixAT, wo_ixAL, wo_ixAS, wo_lenT, wo_lenL, wo_lenAT, wo_lenAL, wo_lenAS, wo_abs, wo_intB, wo_tup, wo_lst, wo_tupleL, wo_eqI, wo_eqB, wo_eqSt, wo_neS, wo_neB, wo_neI, wo_is, wo_isnot, wo_str, wo_isI_bl, wo_isI_int, wo_isI_str, wo_isI_tup, wo_isI_non, isI_same, List.map_cons, List.map_nil, List.length_cons, List.length_nil, Nat.reduceAdd, Nat.reduceSub, List.replicate, List.cons_append, List.nil_append, List.getElem?_cons_zero, List.getElem?_cons_succ, List.set_cons_zero, List.set_cons_succ, ex_some, ex_some1, ex_bl, ex_int, at3_0, at3_1, at3_2, at2_0, at2_1, lstOf_last, decide_eq_true_eq, st_0, st_1, st_w1, st_w2, st_push, st_len, st_2, and_self]) ?_
  rintro l S1 ⟨rfl, rfl⟩
  refine ws_cut (fun l S1 => ∃ g, l = [some (.ref 1), some (.int many), some (.int share), some (.int kinds), some g, none] ∧ Or0 many g ∧ Pn ns rest (k + 2) S1) ((maybe ns rest S1 k many share _ 1 4 rfl rfl rfl h (by omega) hm hm2).mono ?_) ?_
  · rintro f l1 S2 ⟨rfl, hl, p⟩
    rcases hl with rfl | ⟨d, rfl, q1, q2⟩
    · exact ⟨rfl, _, rfl, .inl rfl, p⟩
    · exact ⟨rfl, _, rfl, .inr ⟨d, rfl, q1, q2⟩, p⟩
  rintro l S2 ⟨g, rfl, hg, p⟩
  refine ws_cut (fun l S1 => l = [some (.ref 1), some (.int many), some (.int share), some (.int kinds), some g, some .non] ∧ S1 = S2) (by simp only [wo_run, ws_seq, ws_if, wt_e, we_op, we_un, we_var, we_c, ws_asg, ws_ret, ws_drop, ws_next, ws_break, ws_cont, wg_name, wg_sub, wg_tup, wg_nil, wg_cons, wg_dput, we_call, we_methL, we_methS, wa_cons, wa_nil, wt_and, wt_or, wt_not, we_and, we_or, we_not, we_if, wo_I0, wo_I, wo_plusAI, wo_plusAT, we_slA, wp_none, wp_some, ex_int1, wo_slT, wo_intAB, wo_times, wo_ixT, wo_ixL, wo_ixAT, wo_ixAL, wo_ixAS, wo_lenT, wo_lenL, wo_lenAT, wo_lenAL, wo_lenAS, wo_abs, wo_intB, wo_tup, wo_lst, wo_tupleL, wo_eqI, wo_eqB, wo_eqSt, wo_neS, wo_neB, wo_neI, wo_is, wo_isnot, wo_str, wo_isI_bl, wo_isI_int, wo_isI_str, wo_isI_tup, wo_isI_non, isI_same, List.map_cons, List.map_nil, List.length_cons, List.length_nil, Nat.reduceAdd, Nat.reduceSub, List.replicate, List.cons_append, List.nil_append, List.getElem?_cons_zero, List.getElem?_cons_succ, List.set_cons_zero, List.set_cons_succ, ex_some, ex_some1, ex_bl, ex_int, at3_0, at3_1, at3_2, at2_0, at2_1, lstOf_last, decide_eq_true_eq, st_0, st_1, st_w1, st_w2, st_push, st_len, st_2, and_self]) ?_
  rintro l S3 ⟨rfl, rfl⟩
  refine ws_cut (fun l S1 => ∃ s, l = [some (.ref 1), some (.int many), some (.int share), some (.int kinds), some g, some s] ∧ Or0 kinds s ∧ Pn ns rest (k + 4) S1) ((maybe ns rest S3 (k + 2) kinds share _ 3 5 rfl rfl rfl p (by omega) hn hn2).mono ?_) ?_
  · rintro f l1 S2 ⟨rfl, hl, p⟩
    rcases hl with rfl | ⟨d, rfl, q1, q2⟩
    · exact ⟨rfl, _, rfl, .inl rfl, p.mono (by omega)⟩
    · exact ⟨rfl, _, rfl, .inr ⟨d, rfl, q1, q2⟩, p.mono (by omega)⟩
  rintro l S4 ⟨s, rfl, hs, p⟩
  simp only [wo_run, ws_seq, ws_if, wt_e, we_op, we_un, we_var, we_c, ws_asg, ws_ret, ws_drop, ws_next, ws_break, ws_cont, wg_name, wg_sub, wg_tup, wg_nil, wg_cons, wg_dput, we_call, we_methL, we_methS, wa_cons, wa_nil, wt_and, wt_or, wt_not, we_and, we_or, we_not, we_if, wo_I0, wo_I, wo_plusAI, wo_plusAT, we_slA, wp_none, wp_some, ex_int1, wo_slT, wo_intAB, wo_times, wo_ixT, wo_ixL, wo_ixAT, wo_ixAL, wo_ixAS, wo_lenT, wo_lenL, wo_lenAT, wo_lenAL, wo_lenAS, wo_abs, wo_intB, wo_tup, wo_lst, wo_tupleL, wo_eqI, wo_eqB, wo_eqSt, wo_neS, wo_neB, wo_neI, wo_is, wo_isnot, wo_str, wo_isI_bl, wo_isI_int, wo_isI_str, wo_isI_tup, wo_isI_non, isI_same, List.map_cons, List.map_nil, List.length_cons, List.length_nil, Nat.reduceAdd, Nat.reduceSub, List.replicate, List.cons_append, List.nil_append, List.getElem?_cons_zero, List.getElem?_cons_succ, List.set_cons_zero, List.set_cons_succ, ex_some, ex_some1, ex_bl, ex_int, at3_0, at3_1, at3_2, at2_0, at2_1, lstOf_last, decide_eq_true_eq, st_0, st_1, st_w1, st_w2, st_push, st_len, st_2]
  exact ⟨by decide, ⟨g, s, rfl, hg, hs⟩, p⟩
def IsRoom (asks : Nat) (many kinds : Int) (v : D) : Prop := ∃ cs, v = .tup cs ∧ cs.length = asks ∧ ∀ c ∈ cs, IsCell many kinds c
end M
set_option Elab.async false
set_option maxHeartbeats 4000000
set_option maxRecDepth 100000
namespace M
open PySem L3 G
theorem pn_get {ns : List Int} {pre : Sto} {o : Ob} {k : Int} {S : Sto} (h : Pn ns (pre ++ [o]) k S) : S[pre.length + 2]? = some o := by
  obtain ⟨a, r, ex, rfl, _⟩ := h
  rw [st_get, List.append_assoc, List.getElem?_append_right (Nat.le_refl _)]
  simp
theorem pn_lst {ns : List Int} {pre : Sto} {xs : List D} {k : Int} {S : Sto} (h : Pn ns (pre ++ [.lst xs]) k S) : lstOf S (pre.length + 2) = some xs := by
  unfold lstOf; rw [pn_get h]
theorem pn_set {ns : List Int} {pre : Sto} {o o' : Ob} {k : Int} {S : Sto} (h : Pn ns (pre ++ [o]) k S) : Pn ns (pre ++ [o']) k (S.set (pre.length + 2) o') := by
  obtain ⟨a, r, ex, rfl, h1, h2, h3⟩ := h
  refine ⟨a, r, ex, ?_, h1, h2, h3⟩
  rw [st_set]
  congr 1
  rw [List.append_assoc, List.append_assoc]
  rw [List.set_append_right _ _ (Nat.le_refl _)]
  simp
theorem pn_push {ns : List Int} {rest : Sto} {o : Ob} {k : Int} {S : Sto} (h : Pn ns rest k S) : ∃ pre ex, S.length = pre.length + 2 ∧ pre = rest ++ ex ∧ Pn ns (pre ++ [o]) k (S ++ [o]) := by
  obtain ⟨a, r, ex, rfl, h1, h2, h3⟩ := h
  exact ⟨rest ++ ex, ex, st_len, rfl, a, r, [], by rw [st_push, List.append_nil], h1, h2, h3⟩
theorem comp_inv {g : GM} {e : EM} (P : Nat → List D → Lo → Sto → Prop) (xs : List D) (step : ∀ (i : Nat) x l S acc, xs[i]? = some x → P i acc l S → Wg (g x l S) fun l1 S1 => We e l1 S1 fun y S2 => P (i + 1) (acc ++ [y]) l1 S2) :
    ∀ (m i : Nat) (l : Lo) (S : Sto) (acc : List D), i + m = xs.length → P i acc l S → ∃ ys S' l', compG (itX xs) g tTrue e (m + 1) i l S = some (ys, S') ∧ P xs.length (acc ++ ys) l' S'
  | 0, i, l, S, acc, hi, h => by
    have e0 : xs[i]? = none := List.getElem?_eq_none_iff.mpr (by omega)
    refine ⟨[], S, l, ?_, ?_⟩
    · unfold compG itX; rw [e0]; rfl
    · rw [List.append_nil, show xs.length = i by omega]; exact h
  | m + 1, i, l, S, acc, hi, h => by
    have hl : i < xs.length := by omega
    have e0 : xs[i]? = some xs[i] := List.getElem?_eq_getElem hl
    obtain ⟨l1, S1, e1, y, S2, e2, h2⟩ := step i _ l S acc e0 h
    obtain ⟨ys, S', l', e3, h3⟩ := comp_inv P xs step m (i + 1) l1 S2 (acc ++ [y]) (by omega) h2
    refine ⟨y :: ys, S', l', ?_, by rw [List.append_assoc] at h3; exact h3⟩
    have : compG (itX xs) g tTrue e (m + 1 + 1) i l S = ((itX xs i S).bind fun o => match o with
      | none => some ([], S)
      | some x => (g x l S).bind fun p => (tTrue p.1 p.2).bind fun q => if q.1 = true then (e p.1 q.2).bind fun r => (compG (itX xs) g tTrue e (m + 1) (i + 1) p.1 r.2).bind fun z => some (r.1 :: z.1, z.2) else compG (itX xs) g tTrue e (m + 1) (i + 1) p.1 q.2) := rfl
    rw [this]
    unfold itX; rw [e0]
    show (g xs[i] l S).bind _ = _
    rw [e1]
    show (e l1 S1).bind _ = _
    rw [e2]
    show (compG (itX xs) g tTrue e (m + 1) (i + 1) l1 S2).bind _ = _
    rw [e3]; rfl
theorem near_ok (ns : List Int) (rest : Sto) (S : Sto) (k many kinds : Int) (asks : Nat) (room : D) (hroom : IsRoom asks many kinds room) (hasks : asks ≤ 100) (h : Pn ns rest k S) (hk : 0 ≤ k) (hk2 : k < 800000000) (hm : 0 < many) (hm2 : many < 1073741824) (hn : 0 < kinds) (hn2 : kinds < 1073741824) :
    Wo (m_law_near [.ref 1, room, .int many, .int kinds] S) fun v S' => IsRoom asks many kinds v ∧ Pn ns rest (k + 3 * asks) S' := by
  obtain ⟨cs, rfl, hcs, hall⟩ := hroom
  unfold m_law_near b_law_near
  simp only [wo_run, List.map_cons, List.map_nil, List.length_cons, List.length_nil, Nat.reduceAdd, Nat.reduceSub, List.replicate, List.cons_append, List.nil_append]
  obtain ⟨pre, ex, hlen, hpre, hp⟩ := pn_push (o := .lst []) h
  refine ws_cut (fun l S1 => l = [some (.ref 1), some (.tup cs), some (.int many), some (.int kinds), some (.ref (pre.length + 2)), none, none, none, none] ∧ S1 = S ++ [.lst []]) (by simp only [wo_run, ws_seq, ws_if, wt_e, we_op, we_un, we_var, we_c, ws_asg, ws_ret, ws_drop, ws_next, ws_break, ws_cont, wg_name, wg_sub, wg_tup, wg_nil, wg_cons, wg_dput, we_call, we_methL, we_methS, wa_cons, wa_nil, wt_and, wt_or, wt_not, we_and, we_or, we_not, we_if, wo_I0, wo_I, wo_plusAI, wo_plusAT, we_slA, wp_none, wp_some, ex_int1, wo_slT, wo_intAB, wo_times, wo_ixT, wo_ixL, wo_ixAT, wo_ixAL, wo_ixAS, wo_lenT, wo_lenL, wo_lenAT, wo_lenAL, wo_lenAS, wo_abs, wo_intB, wo_tup, wo_lst, wo_tupleL, wo_eqI, wo_eqB, wo_eqSt, wo_neS, wo_neB, wo_neI, wo_is, wo_isnot, wo_str, wo_isI_bl, wo_isI_int, wo_isI_str, wo_isI_tup, wo_isI_non, isI_same, List.map_cons, List.map_nil, List.length_cons, List.length_nil, Nat.reduceAdd, Nat.reduceSub, List.replicate, List.cons_append, List.nil_append, List.getElem?_cons_zero, List.getElem?_cons_succ, List.set_cons_zero, List.set_cons_succ, ex_some, ex_some1, ex_bl, ex_int, at3_0, at3_1, at3_2, at2_0, at2_1, lstOf_last, decide_eq_true_eq, st_0, st_1, st_w1, st_w2, st_push, st_len, st_2, hlen]; exact ⟨by decide, by first | rfl | trivial, by first | rfl | trivial⟩) ?_
  rintro l S1 ⟨rfl, rfl⟩
  refine ws_cut (fun l S1 => ∃ acc x5 x6 x7 x8, l = [some (.ref 1), some (.tup cs), some (.int many), some (.int kinds), some (.ref (pre.length + 2)), x5, x6, x7, x8] ∧ acc.length = asks ∧ (∀ c ∈ acc, IsCell many kinds c) ∧ Pn ns (pre ++ [.lst acc]) (k + 3 * asks) S1) ?_ ?_
  · rw [ws_forT]
    simp only [we_var, List.getElem?_cons_zero, List.getElem?_cons_succ, ex_some]
    refine (forX_inv (fun i l S1 => ∃ acc x5 x6 x7 x8, l = [some (.ref 1), some (.tup cs), some (.int many), some (.int kinds), some (.ref (pre.length + 2)), x5, x6, x7, x8] ∧ acc.length = i ∧ (∀ c ∈ acc, IsCell many kinds c) ∧ Pn ns (pre ++ [.lst acc]) (k + 3 * i) S1) cs 0 _ _ ⟨[], none, none, none, none, rfl, rfl, (by intro c hc; cases hc), by simpa using hp⟩ ?_).mono ?_
    · rintro i x l S2 hx ⟨acc, x5, x6, x7, x8, rfl, hacc, hcell, p⟩
      rw [Nat.zero_add] at hacc p
      have hi : i < cs.length := (List.getElem?_eq_some_iff.mp hx).1
      obtain ⟨g, s, rfl, hg, hs⟩ := hall x (List.mem_of_getElem? hx)
      simp only [wg_name, List.set_cons_zero, List.set_cons_succ]
      refine ws_cut (fun l S1 => ∃ d, l = [some (.ref 1), some (.tup cs), some (.int many), some (.int kinds), some (.ref (pre.length + 2)), some (.tup [g, s]), some (.int d), x7, x8] ∧ Pn ns (pre ++ [.lst acc]) (k + 3 * i + 1) S1) ?_ ?_
      · simp only [wo_run, ws_seq, ws_if, wt_e, we_op, we_un, we_var, we_c, ws_asg, ws_ret, ws_drop, ws_next, ws_break, ws_cont, wg_name, wg_sub, wg_tup, wg_nil, wg_cons, wg_dput, we_call, we_methL, we_methS, wa_cons, wa_nil, wt_and, wt_or, wt_not, we_and, we_or, we_not, we_if, wo_I0, wo_I, wo_plusAI, wo_plusAT, we_slA, wp_none, wp_some, ex_int1, wo_slT, wo_intAB, wo_times, wo_ixT, wo_ixL, wo_ixAT, wo_ixAL, wo_ixAS, wo_lenT, wo_lenL, wo_lenAT, wo_lenAL, wo_lenAS, wo_abs, wo_intB, wo_tup, wo_lst, wo_tupleL, wo_eqI, wo_eqB, wo_eqSt, wo_neS, wo_neB, wo_neI, wo_is, wo_isnot, wo_str, wo_isI_bl, wo_isI_int, wo_isI_str, wo_isI_tup, wo_isI_non, isI_same, List.map_cons, List.map_nil, List.length_cons, List.length_nil, Nat.reduceAdd, Nat.reduceSub, List.replicate, List.cons_append, List.nil_append, List.getElem?_cons_zero, List.getElem?_cons_succ, List.set_cons_zero, List.set_cons_succ, ex_some, ex_some1, ex_bl, ex_int, at3_0, at3_1, at3_2, at2_0, at2_1, lstOf_last, decide_eq_true_eq, st_0, st_1, st_w1, st_w2, st_push, st_len, st_2]
        refine (take_pn ns _ S2 (k + 3 * i) 8 p (by omega) (by decide) (by decide)).mono ?_
        rintro v S' ⟨⟨d, rfl, _, _⟩, p2⟩
        exact ⟨by first | rfl | trivial, d, rfl, p2⟩
      rintro l S3 ⟨d, rfl, p3⟩
      refine ws_cut (fun l S1 => l = [some (.ref 1), some (.tup cs), some (.int many), some (.int kinds), some (.ref (pre.length + 2)), some (.tup [g, s]), some (.int d), some g, some s] ∧ S1 = S3) (by simp only [wo_run, ws_seq, ws_if, wt_e, we_op, we_un, we_var, we_c, ws_asg, ws_ret, ws_drop, ws_next, ws_break, ws_cont, wg_name, wg_sub, wg_tup, wg_nil, wg_cons, wg_dput, we_call, we_methL, we_methS, wa_cons, wa_nil, wt_and, wt_or, wt_not, we_and, we_or, we_not, we_if, wo_I0, wo_I, wo_plusAI, wo_plusAT, we_slA, wp_none, wp_some, ex_int1, wo_slT, wo_intAB, wo_times, wo_ixT, wo_ixL, wo_ixAT, wo_ixAL, wo_ixAS, wo_lenT, wo_lenL, wo_lenAT, wo_lenAL, wo_lenAS, wo_abs, wo_intB, wo_tup, wo_lst, wo_tupleL, wo_eqI, wo_eqB, wo_eqSt, wo_neS, wo_neB, wo_neI, wo_is, wo_isnot, wo_str, wo_isI_bl, wo_isI_int, wo_isI_str, wo_isI_tup, wo_isI_non, isI_same, List.map_cons, List.map_nil, List.length_cons, List.length_nil, Nat.reduceAdd, Nat.reduceSub, List.replicate, List.cons_append, List.nil_append, List.getElem?_cons_zero, List.getElem?_cons_succ, List.set_cons_zero, List.set_cons_succ, ex_some, ex_some1, ex_bl, ex_int, at3_0, at3_1, at3_2, at2_0, at2_1, lstOf_last, decide_eq_true_eq, st_0, st_1, st_w1, st_w2, st_push, st_len, st_2, and_self]) ?_
      rintro l S4 ⟨rfl, rfl⟩
      have base : ∀ (g1 s1 : D), ([some (.ref 1), some (.tup cs), some (.int many), some (.int kinds), some (.ref (pre.length + 2)), some (.tup [g, s]), some (.int d), some g1, some s1] : Lo) = [some (.ref 1), some (.tup cs), some (.int many), some (.int kinds), some (.ref (pre.length + 2)), some (.tup [g, s]), some (.int d), some g1, some s1] := fun _ _ => rfl
      refine ws_cut (fun l S1 => ∃ g1, l = [some (.ref 1), some (.tup cs), some (.int many), some (.int kinds), some (.ref (pre.length + 2)), some (.tup [g, s]), some (.int d), some g1, some s] ∧ Or0 many g1 ∧ S1 = S4) ?_ ?_
      · simp only [wo_run, ws_seq, ws_if, wt_e, we_op, we_un, we_var, we_c, ws_asg, ws_ret, ws_drop, ws_next, ws_break, ws_cont, wg_name, wg_sub, wg_tup, wg_nil, wg_cons, wg_dput, we_call, we_methL, we_methS, wa_cons, wa_nil, wt_and, wt_or, wt_not, we_and, we_or, we_not, we_if, wo_I0, wo_I, wo_plusAI, wo_plusAT, we_slA, wp_none, wp_some, ex_int1, wo_slT, wo_intAB, wo_times, wo_ixT, wo_ixL, wo_ixAT, wo_ixAL, wo_ixAS, wo_lenT, wo_lenL, wo_lenAT, wo_lenAL, wo_lenAS, wo_abs, wo_intB, wo_tup, wo_lst, wo_tupleL, wo_eqI, wo_eqB, wo_eqSt, wo_neS, wo_neB, wo_neI, wo_is, wo_isnot, wo_str, wo_isI_bl, wo_isI_int, wo_isI_str, wo_isI_tup, wo_isI_non, isI_same, List.map_cons, List.map_nil, List.length_cons, List.length_nil, Nat.reduceAdd, Nat.reduceSub, List.replicate, List.cons_append, List.nil_append, List.getElem?_cons_zero, List.getElem?_cons_succ, List.set_cons_zero, List.set_cons_succ, ex_some, ex_some1, ex_bl, ex_int, at3_0, at3_1, at3_2, at2_0, at2_1, lstOf_last, decide_eq_true_eq, st_0, st_1, st_w1, st_w2, st_push, st_len, st_2]
        split
        · exact ⟨by first | rfl | trivial, .non, rfl, .inl rfl, by first | rfl | trivial⟩
        · exact ⟨by first | rfl | trivial, g, rfl, hg, by first | rfl | trivial⟩
      rintro l S5 ⟨g1, rfl, hg1, rfl⟩
      refine ws_cut (fun l S1 => ∃ s1, l = [some (.ref 1), some (.tup cs), some (.int many), some (.int kinds), some (.ref (pre.length + 2)), some (.tup [g, s]), some (.int d), some g1, some s1] ∧ Or0 kinds s1 ∧ S1 = S5) ?_ ?_
      · simp only [wo_run, ws_seq, ws_if, wt_e, we_op, we_un, we_var, we_c, ws_asg, ws_ret, ws_drop, ws_next, ws_break, ws_cont, wg_name, wg_sub, wg_tup, wg_nil, wg_cons, wg_dput, we_call, we_methL, we_methS, wa_cons, wa_nil, wt_and, wt_or, wt_not, we_and, we_or, we_not, we_if, wo_I0, wo_I, wo_plusAI, wo_plusAT, we_slA, wp_none, wp_some, ex_int1, wo_slT, wo_intAB, wo_times, wo_ixT, wo_ixL, wo_ixAT, wo_ixAL, wo_ixAS, wo_lenT, wo_lenL, wo_lenAT, wo_lenAL, wo_lenAS, wo_abs, wo_intB, wo_tup, wo_lst, wo_tupleL, wo_eqI, wo_eqB, wo_eqSt, wo_neS, wo_neB, wo_neI, wo_is, wo_isnot, wo_str, wo_isI_bl, wo_isI_int, wo_isI_str, wo_isI_tup, wo_isI_non, isI_same, List.map_cons, List.map_nil, List.length_cons, List.length_nil, Nat.reduceAdd, Nat.reduceSub, List.replicate, List.cons_append, List.nil_append, List.getElem?_cons_zero, List.getElem?_cons_succ, List.set_cons_zero, List.set_cons_succ, ex_some, ex_some1, ex_bl, ex_int, at3_0, at3_1, at3_2, at2_0, at2_1, lstOf_last, decide_eq_true_eq, st_0, st_1, st_w1, st_w2, st_push, st_len, st_2]
        split
        · exact ⟨by first | rfl | trivial, .non, rfl, .inl rfl, by first | rfl | trivial⟩
        · exact ⟨by first | rfl | trivial, s, rfl, hs, by first | rfl | trivial⟩
      rintro l S6 ⟨s1, rfl, hs1, rfl⟩
      refine ws_cut (fun l S1 => ∃ g2, l = [some (.ref 1), some (.tup cs), some (.int many), some (.int kinds), some (.ref (pre.length + 2)), some (.tup [g, s]), some (.int d), some g2, some s1] ∧ Or0 many g2 ∧ Pn ns (pre ++ [.lst acc]) (k + 3 * i + 2) S1) ?_ ?_
      · simp only [wo_run, ws_seq, ws_if, wt_e, we_op, we_un, we_var, we_c, ws_asg, ws_ret, ws_drop, ws_next, ws_break, ws_cont, wg_name, wg_sub, wg_tup, wg_nil, wg_cons, wg_dput, we_call, we_methL, we_methS, wa_cons, wa_nil, wt_and, wt_or, wt_not, we_and, we_or, we_not, we_if, wo_I0, wo_I, wo_plusAI, wo_plusAT, we_slA, wp_none, wp_some, ex_int1, wo_slT, wo_intAB, wo_times, wo_ixT, wo_ixL, wo_ixAT, wo_ixAL, wo_ixAS, wo_lenT, wo_lenL, wo_lenAT, wo_lenAL, wo_lenAS, wo_abs, wo_intB, wo_tup, wo_lst, wo_tupleL, wo_eqI, wo_eqB, wo_eqSt, wo_neS, wo_neB, wo_neI, wo_is, wo_isnot, wo_str, wo_isI_bl, wo_isI_int, wo_isI_str, wo_isI_tup, wo_isI_non, isI_same, List.map_cons, List.map_nil, List.length_cons, List.length_nil, Nat.reduceAdd, Nat.reduceSub, List.replicate, List.cons_append, List.nil_append, List.getElem?_cons_zero, List.getElem?_cons_succ, List.set_cons_zero, List.set_cons_succ, ex_some, ex_some1, ex_bl, ex_int, at3_0, at3_1, at3_2, at2_0, at2_1, lstOf_last, decide_eq_true_eq, st_0, st_1, st_w1, st_w2, st_push, st_len, st_2]
        split
        · refine (take_pn ns _ S6 (k + 3 * i + 1) many p3 (by omega) hm hm2).mono ?_
          rintro v S' ⟨⟨e, rfl, q1, q2⟩, p4⟩
          exact ⟨by first | rfl | trivial, _, rfl, .inr ⟨e, rfl, q1, q2⟩, p4.mono (by omega)⟩
        · exact ⟨by first | rfl | trivial, g1, rfl, hg1, p3.mono (by omega)⟩
      rintro l S7 ⟨g2, rfl, hg2, p7⟩
      refine ws_cut (fun l S1 => ∃ s2, l = [some (.ref 1), some (.tup cs), some (.int many), some (.int kinds), some (.ref (pre.length + 2)), some (.tup [g, s]), some (.int d), some g2, some s2] ∧ Or0 kinds s2 ∧ Pn ns (pre ++ [.lst acc]) (k + 3 * i + 3) S1) ?_ ?_
      · simp only [wo_run, ws_seq, ws_if, wt_e, we_op, we_un, we_var, we_c, ws_asg, ws_ret, ws_drop, ws_next, ws_break, ws_cont, wg_name, wg_sub, wg_tup, wg_nil, wg_cons, wg_dput, we_call, we_methL, we_methS, wa_cons, wa_nil, wt_and, wt_or, wt_not, we_and, we_or, we_not, we_if, wo_I0, wo_I, wo_plusAI, wo_plusAT, we_slA, wp_none, wp_some, ex_int1, wo_slT, wo_intAB, wo_times, wo_ixT, wo_ixL, wo_ixAT, wo_ixAL, wo_ixAS, wo_lenT, wo_lenL, wo_lenAT, wo_lenAL, wo_lenAS, wo_abs, wo_intB, wo_tup, wo_lst, wo_tupleL, wo_eqI, wo_eqB, wo_eqSt, wo_neS, wo_neB, wo_neI, wo_is, wo_isnot, wo_str, wo_isI_bl, wo_isI_int, wo_isI_str, wo_isI_tup, wo_isI_non, isI_same, List.map_cons, List.map_nil, List.length_cons, List.length_nil, Nat.reduceAdd, Nat.reduceSub, List.replicate, List.cons_append, List.nil_append, List.getElem?_cons_zero, List.getElem?_cons_succ, List.set_cons_zero, List.set_cons_succ, ex_some, ex_some1, ex_bl, ex_int, at3_0, at3_1, at3_2, at2_0, at2_1, lstOf_last, decide_eq_true_eq, st_0, st_1, st_w1, st_w2, st_push, st_len, st_2]
        split
        · refine (take_pn ns _ S7 (k + 3 * i + 2) kinds p7 (by omega) hn hn2).mono ?_
          rintro v S' ⟨⟨e, rfl, q1, q2⟩, p4⟩
          exact ⟨by first | rfl | trivial, _, rfl, .inr ⟨e, rfl, q1, q2⟩, p4.mono (by omega)⟩
        · exact ⟨by first | rfl | trivial, s1, rfl, hs1, p7.mono (by omega)⟩
      rintro l S8 ⟨s2, rfl, hs2, p8⟩
      simp only [wo_run, ws_seq, ws_if, wt_e, we_op, we_un, we_var, we_c, ws_asg, ws_ret, ws_drop, ws_next, ws_break, ws_cont, wg_name, wg_sub, wg_tup, wg_nil, wg_cons, wg_dput, we_call, we_methL, we_methS, wa_cons, wa_nil, wt_and, wt_or, wt_not, we_and, we_or, we_not, we_if, wo_I0, wo_I, wo_plusAI, wo_plusAT, we_slA, wp_none, wp_some, ex_int1, wo_slT, wo_intAB, wo_times, wo_ixT, wo_ixL, wo_ixAT, wo_ixAL, wo_ixAS, wo_lenT, wo_lenL, wo_lenAT, wo_lenAL, wo_lenAS, wo_abs, wo_intB, wo_tup, wo_lst, wo_tupleL, wo_eqI, wo_eqB, wo_eqSt, wo_neS, wo_neB, wo_neI, wo_is, wo_isnot, wo_str, wo_isI_bl, wo_isI_int, wo_isI_str, wo_isI_tup, wo_isI_non, isI_same, List.map_cons, List.map_nil, List.length_cons, List.length_nil, Nat.reduceAdd, Nat.reduceSub, List.replicate, List.cons_append, List.nil_append, List.getElem?_cons_zero, List.getElem?_cons_succ, List.set_cons_zero, List.set_cons_succ, ex_some, ex_some1, ex_bl, ex_int, at3_0, at3_1, at3_2, at2_0, at2_1, lstOf_last, decide_eq_true_eq, st_0, st_1, st_w1, st_w2, st_push, st_len, st_2, wo_append, recvL, pn_lst p8, pn_get p8, Option.some.injEq, exists_eq', true_and, Ob.lst.injEq, exists_eq_left']
      refine ⟨by decide, ?_, by first | exact .inl rfl | exact .inl trivial | trivial, acc ++ [.tup [g2, s2]], _, _, _, _, rfl, by simp [hacc], ?_, ?_⟩
      · have : (100 : Nat) < sizeLine := by decide
        omega
      · intro c hc
        rcases List.mem_append.mp hc with hc | hc
        · exact hcell c hc
        · have : c = .tup [g2, s2] := by simpa using hc
          exact ⟨g2, s2, this, hg2, hs2⟩
      · exact (pn_set p8).mono (by omega)
    · rintro f l' S' ⟨rfl, acc, x5, x6, x7, x8, rfl, hacc, hcell, p⟩
      exact ⟨rfl, acc, x5, x6, x7, x8, rfl, by omega, hcell, p.mono (by omega)⟩
  · rintro l S2 ⟨acc, x5, x6, x7, x8, rfl, hacc, hcell, p⟩
    simp only [wo_run, ws_seq, ws_if, wt_e, we_op, we_un, we_var, we_c, ws_asg, ws_ret, ws_drop, ws_next, ws_break, ws_cont, wg_name, wg_sub, wg_tup, wg_nil, wg_cons, wg_dput, we_call, we_methL, we_methS, wa_cons, wa_nil, wt_and, wt_or, wt_not, we_and, we_or, we_not, we_if, wo_I0, wo_I, wo_plusAI, wo_plusAT, we_slA, wp_none, wp_some, ex_int1, wo_slT, wo_intAB, wo_times, wo_ixT, wo_ixL, wo_ixAT, wo_ixAL, wo_ixAS, wo_lenT, wo_lenL, wo_lenAT, wo_lenAL, wo_lenAS, wo_abs, wo_intB, wo_tup, wo_lst, wo_tupleL, wo_eqI, wo_eqB, wo_eqSt, wo_neS, wo_neB, wo_neI, wo_is, wo_isnot, wo_str, wo_isI_bl, wo_isI_int, wo_isI_str, wo_isI_tup, wo_isI_non, isI_same, List.map_cons, List.map_nil, List.length_cons, List.length_nil, Nat.reduceAdd, Nat.reduceSub, List.replicate, List.cons_append, List.nil_append, List.getElem?_cons_zero, List.getElem?_cons_succ, List.set_cons_zero, List.set_cons_succ, ex_some, ex_some1, ex_bl, ex_int, at3_0, at3_1, at3_2, at2_0, at2_1, lstOf_last, decide_eq_true_eq, st_0, st_1, st_w1, st_w2, st_push, st_len, st_2, pn_lst p]
    refine ⟨⟨acc, rfl, hacc, hcell⟩, ?_⟩
    rw [hpre, List.append_assoc] at p
    exact p.start
end M
set_option Elab.async false
set_option maxHeartbeats 4000000
set_option maxRecDepth 100000
namespace M
open PySem L3 G
def IsMach (many : Int) (asks : Nat) (v : D) : Prop := ∃ rooms, v = .tup [.int asks, .tup rooms] ∧ 1 ≤ asks ∧ asks ≤ 4 ∧ (rooms.length : Int) = many ∧ 1 ≤ many ∧ ∀ r ∈ rooms, IsRoom asks many 8 r
theorem Or0.mono {a b : Int} {g : D} (h : Or0 a g) (hab : a ≤ b) : Or0 b g := by
  rcases h with h | ⟨i, h1, h2, h3⟩
  · exact .inl h
  · exact .inr ⟨i, h1, h2, by omega⟩
theorem IsRoom.mono {asks : Nat} {many a b : Int} {v : D} (h : IsRoom asks many a v) (hab : a ≤ b) : IsRoom asks many b v := by
  obtain ⟨cs, h1, h2, h3⟩ := h
  refine ⟨cs, h1, h2, fun c hc => ?_⟩
  obtain ⟨g, s, q1, q2, q3⟩ := h3 c hc
  exact ⟨g, s, q1, q2, q3.mono hab⟩
theorem pick4 {a b c d : Int} (i : Int) (h0 : 0 ≤ i) (h1 : i < 4) : ∃ x, L2.atI [D.int a, D.int b, D.int c, D.int d] i = some (.int x) ∧ (x = a ∨ x = b ∨ x = c ∨ x = d) := by
  have : i = 0 ∨ i = 1 ∨ i = 2 ∨ i = 3 := by omega
  rcases this with rfl | rfl | rfl | rfl
  · exact ⟨a, rfl, by simp⟩
  · exact ⟨b, rfl, by simp⟩
  · exact ⟨c, rfl, by simp⟩
  · exact ⟨d, rfl, by simp⟩
theorem pn_app {ns : List Int} {rest : Sto} {o : Ob} {k : Int} {S : Sto} (h : Pn ns rest k S) : Pn ns rest k (S ++ [o]) := by
  obtain ⟨a, r, ex, rfl, h1, h2, h3⟩ := h
  exact ⟨a, r, ex ++ [o], by rw [st_push, List.append_assoc], h1, h2, h3⟩
theorem recv_ref {n : Nat} {S : Sto} : recvL (.ref n) S = lstOf S n := rfl
theorem ex_ok {α : Type} {x : α} : (∃ y, some x = some y) = True := by simp
theorem ws_if' {t : TM} {m n : SM} {l : Lo} {S : Sto} {Q : Fl → Lo → Sto → Prop} (R : Bool → Sto → Prop) (h : Wt t l S R) (h1 : ∀ S1, R true S1 → Ws m l S1 Q) (h2 : ∀ S1, R false S1 → Ws n l S1 Q) : Ws (sIf t m n) l S Q := by
  rw [ws_if]
  obtain ⟨k, S1, e, r⟩ := h
  refine ⟨k, S1, e, ?_⟩
  cases k with
  | true => exact h1 S1 r
  | false => exact h2 S1 r
theorem we_compR {as : AM} {g : GM} {e : EM} {ixs : List (Option Nat)} {l : Lo} {S : Sto} {Q : D → Sto → Prop} (h : Wa as l S fun xs S1 => ∃ j, xs = [.int j] ∧ (-(2 ^ 62) ≤ j ∧ j < 2 ^ 62) ∧ ∃ ys S2, compG (itX (rngD 0 j.toNat)) g tTrue e (j.toNat + 1) 0 (srcL ixs l) S1 = some (ys, S2) ∧ ys.length ≤ sizeLine ∧ Q (.ref S2.length) (S2 ++ [.lst ys])) :
    We (eComp (iRng (rng1 as)) ixs g tTrue e) l S Q := by
  obtain ⟨xs, S1, h1, j, rfl, hz, ys, S2, h2, h3, q⟩ := h
  refine ⟨_, _, ?_, q⟩
  have : rng1 as l S = some ((0, j.toNat), S1) := by
    unfold rng1; rw [h1]; show (if _ then _ else _) = _; rw [if_pos hz]
  unfold eComp iRng
  show ((rng1 as l S).bind _).bind _ = _
  rw [this]
  show (compG (itX (rngD 0 j.toNat)) g tTrue e (j.toNat + 1) 0 (srcL ixs l) S1).bind _ = _
  rw [h2]
  show (if _ then _ else _) = _
  rw [if_pos h3]
theorem machine_ok (ns : List Int) (rest : Sto) (S : Sto) (k most : Int) (h : Pn ns rest k S) (hk : 0 ≤ k) (hk2 : k < 700000000) (hm : 0 < most) (hm2 : most ≤ 24) :
    Wo (m_law_machine [.ref 1, .int most] S) fun v S' => (∃ many asks, IsMach many asks v ∧ many ≤ most) ∧ Pn ns rest (k + 1000) S' := by
  unfold m_law_machine b_law_machine
  simp only [wo_run, List.map_cons, List.map_nil, List.length_cons, List.length_nil, Nat.reduceAdd, Nat.reduceSub, List.replicate, List.cons_append, List.nil_append]
  refine ws_cut (fun l S1 => ∃ co, l = [some (.ref 1), some (.int most), some (.int co), none, none, none, none, none, none] ∧ Pn ns rest (k + 1) S1) ?_ ?_
  · simp only [wo_run, ws_seq, ws_if, wt_e, we_op, we_un, we_var, we_c, ws_asg, ws_ret, ws_drop, ws_next, ws_break, ws_cont, wg_name, wg_sub, wg_tup, wg_nil, wg_cons, wg_dput, we_call, we_methL, we_methS, wa_cons, wa_nil, wt_and, wt_or, wt_not, we_and, we_or, we_not, we_if, wo_I0, wo_I, wo_plusAI, wo_plusAT, we_slA, wp_none, wp_some, ex_int1, wo_slT, wo_intAB, wo_times, wo_ixT, wo_ixL, wo_ixAT, wo_ixAL, wo_ixAS, wo_lenT, wo_lenL, wo_lenAT, wo_lenAL, wo_lenAS, wo_abs, wo_intB, wo_tup, wo_lst, wo_tupleL, wo_eqI, wo_eqB, wo_eqSt, wo_neS, wo_neB, wo_neI, wo_is, wo_isnot, wo_str, wo_isI_bl, wo_isI_int, wo_isI_str, wo_isI_tup, wo_isI_non, isI_same, List.map_cons, List.map_nil, List.length_cons, List.length_nil, Nat.reduceAdd, Nat.reduceSub, List.replicate, List.cons_append, List.nil_append, List.getElem?_cons_zero, List.getElem?_cons_succ, List.set_cons_zero, List.set_cons_succ, ex_some, ex_some1, ex_bl, ex_int, at3_0, at3_1, at3_2, at2_0, at2_1, lstOf_last, decide_eq_true_eq, st_0, st_1, st_w1, st_w2, st_push, st_len, st_2]
    refine (take_pn ns rest S k 3 h (by omega) (by decide) (by decide)).mono ?_
    rintro v S' ⟨⟨d, rfl, q1, q2⟩, p⟩
    exact ⟨by first | rfl | trivial, d, rfl, p⟩
  rintro l S1 ⟨co, rfl, p1⟩
  refine ws_cut (fun l S1 => ∃ sh, l = [some (.ref 1), some (.int most), some (.int co), some (.int sh), none, none, none, none, none] ∧ Pn ns rest (k + 2) S1) ?_ ?_
  · simp only [wo_run, ws_seq, ws_if, wt_e, we_op, we_un, we_var, we_c, ws_asg, ws_ret, ws_drop, ws_next, ws_break, ws_cont, wg_name, wg_sub, wg_tup, wg_nil, wg_cons, wg_dput, we_call, we_methL, we_methS, wa_cons, wa_nil, wt_and, wt_or, wt_not, we_and, we_or, we_not, we_if, wo_I0, wo_I, wo_plusAI, wo_plusAT, we_slA, wp_none, wp_some, ex_int1, wo_slT, wo_intAB, wo_times, wo_ixT, wo_ixL, wo_ixAT, wo_ixAL, wo_ixAS, wo_lenT, wo_lenL, wo_lenAT, wo_lenAL, wo_lenAS, wo_abs, wo_intB, wo_tup, wo_lst, wo_tupleL, wo_eqI, wo_eqB, wo_eqSt, wo_neS, wo_neB, wo_neI, wo_is, wo_isnot, wo_str, wo_isI_bl, wo_isI_int, wo_isI_str, wo_isI_tup, wo_isI_non, isI_same, List.map_cons, List.map_nil, List.length_cons, List.length_nil, Nat.reduceAdd, Nat.reduceSub, List.replicate, List.cons_append, List.nil_append, List.getElem?_cons_zero, List.getElem?_cons_succ, List.set_cons_zero, List.set_cons_succ, ex_some, ex_some1, ex_bl, ex_int, at3_0, at3_1, at3_2, at2_0, at2_1, lstOf_last, decide_eq_true_eq, st_0, st_1, st_w1, st_w2, st_push, st_len, st_2]
    refine ⟨by decide, ?_⟩
    obtain ⟨pre, ex, hlen, hpre, hp⟩ := pn_push (o := .lst [.int 0, .int 1, .int 2, .int 5]) p1
    refine (take_pn ns _ _ (k + 1) 4 hp (by omega) (by decide) (by decide)).mono ?_
    rintro v S' ⟨⟨d, rfl, q1, q2⟩, p⟩
    obtain ⟨x, hx, _⟩ := pick4 (a := 0) (b := 1) (c := 2) (d := 5) d q1 q2
    simp only [wo_run, ws_seq, ws_if, wt_e, we_op, we_un, we_var, we_c, ws_asg, ws_ret, ws_drop, ws_next, ws_break, ws_cont, wg_name, wg_sub, wg_tup, wg_nil, wg_cons, wg_dput, we_call, we_methL, we_methS, wa_cons, wa_nil, wt_and, wt_or, wt_not, we_and, we_or, we_not, we_if, wo_I0, wo_I, wo_plusAI, wo_plusAT, we_slA, wp_none, wp_some, ex_int1, wo_slT, wo_intAB, wo_times, wo_ixT, wo_ixL, wo_ixAT, wo_ixAL, wo_ixAS, wo_lenT, wo_lenL, wo_lenAT, wo_lenAL, wo_lenAS, wo_abs, wo_intB, wo_tup, wo_lst, wo_tupleL, wo_eqI, wo_eqB, wo_eqSt, wo_neS, wo_neB, wo_neI, wo_is, wo_isnot, wo_str, wo_isI_bl, wo_isI_int, wo_isI_str, wo_isI_tup, wo_isI_non, isI_same, List.map_cons, List.map_nil, List.length_cons, List.length_nil, Nat.reduceAdd, Nat.reduceSub, List.replicate, List.cons_append, List.nil_append, List.getElem?_cons_zero, List.getElem?_cons_succ, List.set_cons_zero, List.set_cons_succ, ex_some, ex_some1, ex_bl, ex_int, at3_0, at3_1, at3_2, at2_0, at2_1, lstOf_last, decide_eq_true_eq, st_0, st_1, st_w1, st_w2, st_push, st_len, st_2, hlen, pn_lst p, hx]
    rw [hpre, List.append_assoc] at p
    exact ⟨by first | rfl | trivial, x, rfl, p.start.mono (by omega)⟩
  rintro l S2 ⟨sh, rfl, p2⟩
  refine ws_cut (fun l S1 => ∃ ki, l = [some (.ref 1), some (.int most), some (.int co), some (.int sh), some (.int ki), none, none, none, none] ∧ (1 ≤ ki ∧ ki ≤ 8) ∧ Pn ns rest (k + 3) S1) ?_ ?_
  · simp only [wo_run, ws_seq, ws_if, wt_e, we_op, we_un, we_var, we_c, ws_asg, ws_ret, ws_drop, ws_next, ws_break, ws_cont, wg_name, wg_sub, wg_tup, wg_nil, wg_cons, wg_dput, we_call, we_methL, we_methS, wa_cons, wa_nil, wt_and, wt_or, wt_not, we_and, we_or, we_not, we_if, wo_I0, wo_I, wo_plusAI, wo_plusAT, we_slA, wp_none, wp_some, ex_int1, wo_slT, wo_intAB, wo_times, wo_ixT, wo_ixL, wo_ixAT, wo_ixAL, wo_ixAS, wo_lenT, wo_lenL, wo_lenAT, wo_lenAL, wo_lenAS, wo_abs, wo_intB, wo_tup, wo_lst, wo_tupleL, wo_eqI, wo_eqB, wo_eqSt, wo_neS, wo_neB, wo_neI, wo_is, wo_isnot, wo_str, wo_isI_bl, wo_isI_int, wo_isI_str, wo_isI_tup, wo_isI_non, isI_same, List.map_cons, List.map_nil, List.length_cons, List.length_nil, Nat.reduceAdd, Nat.reduceSub, List.replicate, List.cons_append, List.nil_append, List.getElem?_cons_zero, List.getElem?_cons_succ, List.set_cons_zero, List.set_cons_succ, ex_some, ex_some1, ex_bl, ex_int, at3_0, at3_1, at3_2, at2_0, at2_1, lstOf_last, decide_eq_true_eq, st_0, st_1, st_w1, st_w2, st_push, st_len, st_2]
    refine ⟨by decide, ?_⟩
    obtain ⟨pre, ex, hlen, hpre, hp⟩ := pn_push (o := .lst [.int 1, .int 2, .int 3, .int 8]) p2
    refine (take_pn ns _ _ (k + 2) 4 hp (by omega) (by decide) (by decide)).mono ?_
    rintro v S' ⟨⟨d, rfl, q1, q2⟩, p⟩
    obtain ⟨x, hx, hx2⟩ := pick4 (a := 1) (b := 2) (c := 3) (d := 8) d q1 q2
    simp only [wo_run, ws_seq, ws_if, wt_e, we_op, we_un, we_var, we_c, ws_asg, ws_ret, ws_drop, ws_next, ws_break, ws_cont, wg_name, wg_sub, wg_tup, wg_nil, wg_cons, wg_dput, we_call, we_methL, we_methS, wa_cons, wa_nil, wt_and, wt_or, wt_not, we_and, we_or, we_not, we_if, wo_I0, wo_I, wo_plusAI, wo_plusAT, we_slA, wp_none, wp_some, ex_int1, wo_slT, wo_intAB, wo_times, wo_ixT, wo_ixL, wo_ixAT, wo_ixAL, wo_ixAS, wo_lenT, wo_lenL, wo_lenAT, wo_lenAL, wo_lenAS, wo_abs, wo_intB, wo_tup, wo_lst, wo_tupleL, wo_eqI, wo_eqB, wo_eqSt, wo_neS, wo_neB, wo_neI, wo_is, wo_isnot, wo_str, wo_isI_bl, wo_isI_int, wo_isI_str, wo_isI_tup, wo_isI_non, isI_same, List.map_cons, List.map_nil, List.length_cons, List.length_nil, Nat.reduceAdd, Nat.reduceSub, List.replicate, List.cons_append, List.nil_append, List.getElem?_cons_zero, List.getElem?_cons_succ, List.set_cons_zero, List.set_cons_succ, ex_some, ex_some1, ex_bl, ex_int, at3_0, at3_1, at3_2, at2_0, at2_1, lstOf_last, decide_eq_true_eq, st_0, st_1, st_w1, st_w2, st_push, st_len, st_2, hlen, pn_lst p, hx]
    rw [hpre, List.append_assoc] at p
    exact ⟨by first | rfl | trivial, x, rfl, by omega, p.start.mono (by omega)⟩
  rintro l S3 ⟨ki, rfl, ⟨ki1, ki2⟩, p3⟩
  refine ws_cut (fun l S1 => ∃ asks : Nat, l = [some (.ref 1), some (.int most), some (.int co), some (.int sh), some (.int ki), some (.int asks), none, none, none] ∧ (1 ≤ asks ∧ asks ≤ 4) ∧ Pn ns rest (k + 4) S1) ?_ ?_
  · simp only [wo_run, ws_seq, ws_if, wt_e, we_op, we_un, we_var, we_c, ws_asg, ws_ret, ws_drop, ws_next, ws_break, ws_cont, wg_name, wg_sub, wg_tup, wg_nil, wg_cons, wg_dput, we_call, we_methL, we_methS, wa_cons, wa_nil, wt_and, wt_or, wt_not, we_and, we_or, we_not, we_if, wo_I0, wo_I, wo_plusAI, wo_plusAT, we_slA, wp_none, wp_some, ex_int1, wo_slT, wo_intAB, wo_times, wo_ixT, wo_ixL, wo_ixAT, wo_ixAL, wo_ixAS, wo_lenT, wo_lenL, wo_lenAT, wo_lenAL, wo_lenAS, wo_abs, wo_intB, wo_tup, wo_lst, wo_tupleL, wo_eqI, wo_eqB, wo_eqSt, wo_neS, wo_neB, wo_neI, wo_is, wo_isnot, wo_str, wo_isI_bl, wo_isI_int, wo_isI_str, wo_isI_tup, wo_isI_non, isI_same, List.map_cons, List.map_nil, List.length_cons, List.length_nil, Nat.reduceAdd, Nat.reduceSub, List.replicate, List.cons_append, List.nil_append, List.getElem?_cons_zero, List.getElem?_cons_succ, List.set_cons_zero, List.set_cons_succ, ex_some, ex_some1, ex_bl, ex_int, at3_0, at3_1, at3_2, at2_0, at2_1, lstOf_last, decide_eq_true_eq, st_0, st_1, st_w1, st_w2, st_push, st_len, st_2]
    refine (take_pn ns _ _ (k + 3) 4 p3 (by omega) (by decide) (by decide)).mono ?_
    rintro v S' ⟨⟨d, rfl, q1, q2⟩, p⟩
    simp only [wo_run, ws_seq, ws_if, wt_e, we_op, we_un, we_var, we_c, ws_asg, ws_ret, ws_drop, ws_next, ws_break, ws_cont, wg_name, wg_sub, wg_tup, wg_nil, wg_cons, wg_dput, we_call, we_methL, we_methS, wa_cons, wa_nil, wt_and, wt_or, wt_not, we_and, we_or, we_not, we_if, wo_I0, wo_I, wo_plusAI, wo_plusAT, we_slA, wp_none, wp_some, ex_int1, wo_slT, wo_intAB, wo_times, wo_ixT, wo_ixL, wo_ixAT, wo_ixAL, wo_ixAS, wo_lenT, wo_lenL, wo_lenAT, wo_lenAL, wo_lenAS, wo_abs, wo_intB, wo_tup, wo_lst, wo_tupleL, wo_eqI, wo_eqB, wo_eqSt, wo_neS, wo_neB, wo_neI, wo_is, wo_isnot, wo_str, wo_isI_bl, wo_isI_int, wo_isI_str, wo_isI_tup, wo_isI_non, isI_same, List.map_cons, List.map_nil, List.length_cons, List.length_nil, Nat.reduceAdd, Nat.reduceSub, List.replicate, List.cons_append, List.nil_append, List.getElem?_cons_zero, List.getElem?_cons_succ, List.set_cons_zero, List.set_cons_succ, ex_some, ex_some1, ex_bl, ex_int, at3_0, at3_1, at3_2, at2_0, at2_1, lstOf_last, decide_eq_true_eq, st_0, st_1, st_w1, st_w2, st_push, st_len, st_2]
    refine ⟨by first | rfl | trivial, (1 + d).toNat, ?_, by omega, p.mono (by omega)⟩
    rw [show ((1 + d).toNat : Int) = 1 + d by omega]
  rintro l S4 ⟨asks, rfl, ⟨as1, as2⟩, p4⟩
  refine ws_cut (fun l S1 => ∃ many : Int, l = [some (.ref 1), some (.int most), some (.int co), some (.int sh), some (.int ki), some (.int asks), some (.int many), none, none] ∧ (1 ≤ many ∧ many ≤ most) ∧ Pn ns rest (k + 5) S1) ?_ ?_
  · simp only [wo_run, ws_seq, ws_if, wt_e, we_op, we_un, we_var, we_c, ws_asg, ws_ret, ws_drop, ws_next, ws_break, ws_cont, wg_name, wg_sub, wg_tup, wg_nil, wg_cons, wg_dput, we_call, we_methL, we_methS, wa_cons, wa_nil, wt_and, wt_or, wt_not, we_and, we_or, we_not, we_if, wo_I0, wo_I, wo_plusAI, wo_plusAT, we_slA, wp_none, wp_some, ex_int1, wo_slT, wo_intAB, wo_times, wo_ixT, wo_ixL, wo_ixAT, wo_ixAL, wo_ixAS, wo_lenT, wo_lenL, wo_lenAT, wo_lenAL, wo_lenAS, wo_abs, wo_intB, wo_tup, wo_lst, wo_tupleL, wo_eqI, wo_eqB, wo_eqSt, wo_neS, wo_neB, wo_neI, wo_is, wo_isnot, wo_str, wo_isI_bl, wo_isI_int, wo_isI_str, wo_isI_tup, wo_isI_non, isI_same, List.map_cons, List.map_nil, List.length_cons, List.length_nil, Nat.reduceAdd, Nat.reduceSub, List.replicate, List.cons_append, List.nil_append, List.getElem?_cons_zero, List.getElem?_cons_succ, List.set_cons_zero, List.set_cons_succ, ex_some, ex_some1, ex_bl, ex_int, at3_0, at3_1, at3_2, at2_0, at2_1, lstOf_last, decide_eq_true_eq, st_0, st_1, st_w1, st_w2, st_push, st_len, st_2]
    refine (take_pn ns _ _ (k + 4) most p4 (by omega) hm (by omega)).mono ?_
    rintro v S' ⟨⟨d, rfl, q1, q2⟩, p⟩
    simp only [wo_run, ws_seq, ws_if, wt_e, we_op, we_un, we_var, we_c, ws_asg, ws_ret, ws_drop, ws_next, ws_break, ws_cont, wg_name, wg_sub, wg_tup, wg_nil, wg_cons, wg_dput, we_call, we_methL, we_methS, wa_cons, wa_nil, wt_and, wt_or, wt_not, we_and, we_or, we_not, we_if, wo_I0, wo_I, wo_plusAI, wo_plusAT, we_slA, wp_none, wp_some, ex_int1, wo_slT, wo_intAB, wo_times, wo_ixT, wo_ixL, wo_ixAT, wo_ixAL, wo_ixAS, wo_lenT, wo_lenL, wo_lenAT, wo_lenAL, wo_lenAS, wo_abs, wo_intB, wo_tup, wo_lst, wo_tupleL, wo_eqI, wo_eqB, wo_eqSt, wo_neS, wo_neB, wo_neI, wo_is, wo_isnot, wo_str, wo_isI_bl, wo_isI_int, wo_isI_str, wo_isI_tup, wo_isI_non, isI_same, List.map_cons, List.map_nil, List.length_cons, List.length_nil, Nat.reduceAdd, Nat.reduceSub, List.replicate, List.cons_append, List.nil_append, List.getElem?_cons_zero, List.getElem?_cons_succ, List.set_cons_zero, List.set_cons_succ, ex_some, ex_some1, ex_bl, ex_int, at3_0, at3_1, at3_2, at2_0, at2_1, lstOf_last, decide_eq_true_eq, st_0, st_1, st_w1, st_w2, st_push, st_len, st_2]
    exact ⟨by first | rfl | trivial, 1 + d, rfl, by omega, p.mono (by omega)⟩
  rintro l S5 ⟨many, rfl, ⟨ma1, ma2⟩, p5⟩
  obtain ⟨pre, ex, hlen, hpre, hp⟩ := pn_push (o := .lst []) p5
  refine ws_cut (fun l S1 => l = [some (.ref 1), some (.int most), some (.int co), some (.int sh), some (.int ki), some (.int asks), some (.int many), some (.ref (pre.length + 2)), none] ∧ S1 = S5 ++ [.lst []]) (by simp only [wo_run, ws_seq, ws_if, wt_e, we_op, we_un, we_var, we_c, ws_asg, ws_ret, ws_drop, ws_next, ws_break, ws_cont, wg_name, wg_sub, wg_tup, wg_nil, wg_cons, wg_dput, we_call, we_methL, we_methS, wa_cons, wa_nil, wt_and, wt_or, wt_not, we_and, we_or, we_not, we_if, wo_I0, wo_I, wo_plusAI, wo_plusAT, we_slA, wp_none, wp_some, ex_int1, wo_slT, wo_intAB, wo_times, wo_ixT, wo_ixL, wo_ixAT, wo_ixAL, wo_ixAS, wo_lenT, wo_lenL, wo_lenAT, wo_lenAL, wo_lenAS, wo_abs, wo_intB, wo_tup, wo_lst, wo_tupleL, wo_eqI, wo_eqB, wo_eqSt, wo_neS, wo_neB, wo_neI, wo_is, wo_isnot, wo_str, wo_isI_bl, wo_isI_int, wo_isI_str, wo_isI_tup, wo_isI_non, isI_same, List.map_cons, List.map_nil, List.length_cons, List.length_nil, Nat.reduceAdd, Nat.reduceSub, List.replicate, List.cons_append, List.nil_append, List.getElem?_cons_zero, List.getElem?_cons_succ, List.set_cons_zero, List.set_cons_succ, ex_some, ex_some1, ex_bl, ex_int, at3_0, at3_1, at3_2, at2_0, at2_1, lstOf_last, decide_eq_true_eq, st_0, st_1, st_w1, st_w2, st_push, st_len, st_2, hlen]; exact ⟨by decide, by first | rfl | trivial, by first | rfl | trivial⟩) ?_
  rintro l S6 ⟨rfl, rfl⟩
  refine ws_cut (fun l S1 => ∃ acc x8, l = [some (.ref 1), some (.int most), some (.int co), some (.int sh), some (.int ki), some (.int asks), some (.int many), some (.ref (pre.length + 2)), x8] ∧ (acc.length : Int) = many ∧ (∀ c ∈ acc, IsRoom asks many ki c) ∧ Pn ns (pre ++ [.lst acc]) (k + 5 + 20 * 24) S1) ?_ ?_
  · rw [ws_forR]
    simp only [wa_cons, wa_nil, we_var, List.getElem?_cons_zero, List.getElem?_cons_succ, ex_some, ex_int]
    refine ⟨by omega, ?_⟩
    refine (forX_inv (fun i l S1 => ∃ acc x8, l = [some (.ref 1), some (.int most), some (.int co), some (.int sh), some (.int ki), some (.int asks), some (.int many), some (.ref (pre.length + 2)), x8] ∧ acc.length = i ∧ (∀ c ∈ acc, IsRoom asks many ki c) ∧ Pn ns (pre ++ [.lst acc]) (k + 5 + 20 * i) S1) (rngD 0 many.toNat) 0 _ _ ⟨[], none, rfl, rfl, (by intro c hc; cases hc), by simpa using hp⟩ ?_).mono ?_
    · rintro i x l S2 hx ⟨acc, x8, rfl, hacc, hroom, p⟩
      obtain ⟨hi, rfl⟩ := rngD_get hx
      rw [Nat.zero_add] at hacc p
      simp only [wg_name, List.set_cons_zero, List.set_cons_succ]
      have fin : ∀ (S9 : Sto) (v : D), IsRoom asks many ki v → Pn ns (pre ++ [.lst acc]) (k + 5 + 20 * i + 20) S9 → S9[pre.length + 2]? = some (.lst acc) ∧ acc.length < sizeLine ∧ ∃ acc' x8', ([some (.ref 1), some (.int most), some (.int co), some (.int sh), some (.int ki), some (.int asks), some (.int many), some (.ref (pre.length + 2)), some (.int (0 + (i : Int)))] : Lo) = [some (.ref 1), some (.int most), some (.int co), some (.int sh), some (.int ki), some (.int asks), some (.int many), some (.ref (pre.length + 2)), x8'] ∧ acc'.length = 0 + i + 1 ∧ (∀ c ∈ acc', IsRoom asks many ki c) ∧ Pn ns (pre ++ [.lst acc']) (k + 5 + 20 * ((0 + i + 1 : Nat) : Int)) (S9.set (pre.length + 2) (.lst (acc ++ [v]))) := fun S9 v hv p9 => by
        refine ⟨pn_get p9, ?_, acc ++ [v], _, rfl, by simp [hacc], fun c hc => ?_, (pn_set p9).mono (by omega)⟩
        · have : (100 : Nat) < sizeLine := by decide
          omega
        · rcases List.mem_append.mp hc with hc | hc
          · exact hroom c hc
          · have : c = v := by simpa using hc
            rw [this]; exact hv
      refine ws_if' (fun b S1 => Pn ns (pre ++ [.lst acc]) (k + 5 + 20 * i + 1) S1 ∧ (b = true → 0 < i)) ?_ ?_ ?_
      · simp only [wo_run, ws_seq, ws_if, wt_e, we_op, we_un, we_var, we_c, ws_asg, ws_ret, ws_drop, ws_next, ws_break, ws_cont, wg_name, wg_sub, wg_tup, wg_nil, wg_cons, wg_dput, we_call, we_methL, we_methS, wa_cons, wa_nil, wt_and, wt_or, wt_not, we_and, we_or, we_not, we_if, wo_I0, wo_I, wo_plusAI, wo_plusAT, we_slA, wp_none, wp_some, ex_int1, wo_slT, wo_intAB, wo_times, wo_ixT, wo_ixL, wo_ixAT, wo_ixAL, wo_ixAS, wo_lenT, wo_lenL, wo_lenAT, wo_lenAL, wo_lenAS, wo_abs, wo_intB, wo_tup, wo_lst, wo_tupleL, wo_eqI, wo_eqB, wo_eqSt, wo_neS, wo_neB, wo_neI, wo_is, wo_isnot, wo_str, wo_isI_bl, wo_isI_int, wo_isI_str, wo_isI_tup, wo_isI_non, isI_same, List.map_cons, List.map_nil, List.length_cons, List.length_nil, Nat.reduceAdd, Nat.reduceSub, List.replicate, List.cons_append, List.nil_append, List.getElem?_cons_zero, List.getElem?_cons_succ, List.set_cons_zero, List.set_cons_succ, ex_some, ex_some1, ex_bl, ex_int, at3_0, at3_1, at3_2, at2_0, at2_1, lstOf_last, decide_eq_true_eq, st_0, st_1, st_w1, st_w2, st_push, st_len, st_2, decide_eq_true_eq]
        split
        · rename_i hi0
          split
          · refine (take_pn ns _ _ (k + 5 + 20 * i) 3 p (by omega) (by decide) (by decide)).mono ?_
            rintro v S' ⟨⟨d, rfl, q1, q2⟩, p'⟩
            simp only [wo_run, ws_seq, ws_if, wt_e, we_op, we_un, we_var, we_c, ws_asg, ws_ret, ws_drop, ws_next, ws_break, ws_cont, wg_name, wg_sub, wg_tup, wg_nil, wg_cons, wg_dput, we_call, we_methL, we_methS, wa_cons, wa_nil, wt_and, wt_or, wt_not, we_and, we_or, we_not, we_if, wo_I0, wo_I, wo_plusAI, wo_plusAT, we_slA, wp_none, wp_some, ex_int1, wo_slT, wo_intAB, wo_times, wo_ixT, wo_ixL, wo_ixAT, wo_ixAL, wo_ixAS, wo_lenT, wo_lenL, wo_lenAT, wo_lenAL, wo_lenAS, wo_abs, wo_intB, wo_tup, wo_lst, wo_tupleL, wo_eqI, wo_eqB, wo_eqSt, wo_neS, wo_neB, wo_neI, wo_is, wo_isnot, wo_str, wo_isI_bl, wo_isI_int, wo_isI_str, wo_isI_tup, wo_isI_non, isI_same, List.map_cons, List.map_nil, List.length_cons, List.length_nil, Nat.reduceAdd, Nat.reduceSub, List.replicate, List.cons_append, List.nil_append, List.getElem?_cons_zero, List.getElem?_cons_succ, List.set_cons_zero, List.set_cons_succ, ex_some, ex_some1, ex_bl, ex_int, at3_0, at3_1, at3_2, at2_0, at2_1, lstOf_last, decide_eq_true_eq, st_0, st_1, st_w1, st_w2, st_push, st_len, st_2]
            exact ⟨p', fun _ => by omega⟩
          · exact ⟨p.mono (by omega), fun z => by cases z⟩
        · exact ⟨p.mono (by omega), fun z => by cases z⟩
      · rintro S3 ⟨p3', hi0⟩
        have hi0 := hi0 rfl
        simp only [wo_run, ws_seq, ws_if, wt_e, we_op, we_un, we_var, we_c, ws_asg, ws_ret, ws_drop, ws_next, ws_break, ws_cont, wg_name, wg_sub, wg_tup, wg_nil, wg_cons, wg_dput, we_call, we_methL, we_methS, wa_cons, wa_nil, wt_and, wt_or, wt_not, we_and, we_or, we_not, we_if, wo_I0, wo_I, wo_plusAI, wo_plusAT, we_slA, wp_none, wp_some, ex_int1, wo_slT, wo_intAB, wo_times, wo_ixT, wo_ixL, wo_ixAT, wo_ixAL, wo_ixAS, wo_lenT, wo_lenL, wo_lenAT, wo_lenAL, wo_lenAS, wo_abs, wo_intB, wo_tup, wo_lst, wo_tupleL, wo_eqI, wo_eqB, wo_eqSt, wo_neS, wo_neB, wo_neI, wo_is, wo_isnot, wo_str, wo_isI_bl, wo_isI_int, wo_isI_str, wo_isI_tup, wo_isI_non, isI_same, List.map_cons, List.map_nil, List.length_cons, List.length_nil, Nat.reduceAdd, Nat.reduceSub, List.replicate, List.cons_append, List.nil_append, List.getElem?_cons_zero, List.getElem?_cons_succ, List.set_cons_zero, List.set_cons_succ, ex_some, ex_some1, ex_bl, ex_int, at3_0, at3_1, at3_2, at2_0, at2_1, lstOf_last, decide_eq_true_eq, st_0, st_1, st_w1, st_w2, st_push, st_len, st_2, recv_ref, pn_lst p3', ex_ok, true_and]
        refine (take_pn ns _ _ (k + 5 + 20 * i + 1) (0 + (i : Int)) p3' (by omega) (by omega) (by omega)).mono ?_
        rintro v S' ⟨⟨d, rfl, q1, q2⟩, p'⟩
        obtain ⟨y, hy, hym⟩ := atI_in acc d q1 (by omega)
        simp only [wo_run, ws_seq, ws_if, wt_e, we_op, we_un, we_var, we_c, ws_asg, ws_ret, ws_drop, ws_next, ws_break, ws_cont, wg_name, wg_sub, wg_tup, wg_nil, wg_cons, wg_dput, we_call, we_methL, we_methS, wa_cons, wa_nil, wt_and, wt_or, wt_not, we_and, we_or, we_not, we_if, wo_I0, wo_I, wo_plusAI, wo_plusAT, we_slA, wp_none, wp_some, ex_int1, wo_slT, wo_intAB, wo_times, wo_ixT, wo_ixL, wo_ixAT, wo_ixAL, wo_ixAS, wo_lenT, wo_lenL, wo_lenAT, wo_lenAL, wo_lenAS, wo_abs, wo_intB, wo_tup, wo_lst, wo_tupleL, wo_eqI, wo_eqB, wo_eqSt, wo_neS, wo_neB, wo_neI, wo_is, wo_isnot, wo_str, wo_isI_bl, wo_isI_int, wo_isI_str, wo_isI_tup, wo_isI_non, isI_same, List.map_cons, List.map_nil, List.length_cons, List.length_nil, Nat.reduceAdd, Nat.reduceSub, List.replicate, List.cons_append, List.nil_append, List.getElem?_cons_zero, List.getElem?_cons_succ, List.set_cons_zero, List.set_cons_succ, ex_some, ex_some1, ex_bl, ex_int, at3_0, at3_1, at3_2, at2_0, at2_1, lstOf_last, decide_eq_true_eq, st_0, st_1, st_w1, st_w2, st_push, st_len, st_2, pn_lst p', hy]
        refine (near_ok ns _ S' (k + 5 + 20 * i + 2) many ki asks y (hroom y hym) (by omega) (p'.mono (by omega)) (by omega) (by omega) (by omega) (by omega) (by omega) (by omega)).mono ?_
        rintro v S9 ⟨hv, p9⟩
        obtain ⟨f1, f2, f3⟩ := fin S9 v hv (p9.mono (by omega))
        simp only [wo_append, f1, Option.some.injEq, Ob.lst.injEq, exists_eq_left']
        exact ⟨f2, by first | exact .inl rfl | exact .inl trivial | trivial, f3⟩
      · rintro S3 ⟨p3', _⟩
        simp only [wo_run, ws_seq, ws_if, wt_e, we_op, we_un, we_var, we_c, ws_asg, ws_ret, ws_drop, ws_next, ws_break, ws_cont, wg_name, wg_sub, wg_tup, wg_nil, wg_cons, wg_dput, we_call, we_methL, we_methS, wa_cons, wa_nil, wt_and, wt_or, wt_not, we_and, we_or, we_not, we_if, wo_I0, wo_I, wo_plusAI, wo_plusAT, we_slA, wp_none, wp_some, ex_int1, wo_slT, wo_intAB, wo_times, wo_ixT, wo_ixL, wo_ixAT, wo_ixAL, wo_ixAS, wo_lenT, wo_lenL, wo_lenAT, wo_lenAL, wo_lenAS, wo_abs, wo_intB, wo_tup, wo_lst, wo_tupleL, wo_eqI, wo_eqB, wo_eqSt, wo_neS, wo_neB, wo_neI, wo_is, wo_isnot, wo_str, wo_isI_bl, wo_isI_int, wo_isI_str, wo_isI_tup, wo_isI_non, isI_same, List.map_cons, List.map_nil, List.length_cons, List.length_nil, Nat.reduceAdd, Nat.reduceSub, List.replicate, List.cons_append, List.nil_append, List.getElem?_cons_zero, List.getElem?_cons_succ, List.set_cons_zero, List.set_cons_succ, ex_some, ex_some1, ex_bl, ex_int, at3_0, at3_1, at3_2, at2_0, at2_1, lstOf_last, decide_eq_true_eq, st_0, st_1, st_w1, st_w2, st_push, st_len, st_2, recv_ref, pn_lst p3', ex_ok, true_and]
        refine we_compR ?_
        simp only [wa_cons, wa_nil, we_var, List.getElem?_cons_zero, List.getElem?_cons_succ, ex_some, ex_int]
        refine ⟨by omega, ?_⟩
        obtain ⟨ys, S9, l9, e9, hys, hysc, p9⟩ := comp_inv (g := gName3 0) (e := eCall m_law_cell (aCons (eVar 1) (aCons (eVar 2) (aCons (eVar 3) (aCons (eVar 4) (aNil)))))) (fun j cs l S1 => (∃ x0, l = [x0, some (.ref 1), some (.int many), some (.int sh), some (.int ki)]) ∧ cs.length = j ∧ (∀ c ∈ cs, IsCell many ki c) ∧ Pn ns (pre ++ [.lst acc]) (k + 5 + 20 * i + 1 + 4 * j) S1) (rngD 0 (asks : Int).toNat) (by
          rintro j x l S1 cs hx ⟨⟨x0, rfl⟩, hcs, hc, pj⟩
          obtain ⟨hj, rfl⟩ := rngD_get hx
          simp only [wo_run, ws_seq, ws_if, wt_e, we_op, we_un, we_var, we_c, ws_asg, ws_ret, ws_drop, ws_next, ws_break, ws_cont, wg_name, wg_sub, wg_tup, wg_nil, wg_cons, wg_dput, we_call, we_methL, we_methS, wa_cons, wa_nil, wt_and, wt_or, wt_not, we_and, we_or, we_not, we_if, wo_I0, wo_I, wo_plusAI, wo_plusAT, we_slA, wp_none, wp_some, ex_int1, wo_slT, wo_intAB, wo_times, wo_ixT, wo_ixL, wo_ixAT, wo_ixAL, wo_ixAS, wo_lenT, wo_lenL, wo_lenAT, wo_lenAL, wo_lenAS, wo_abs, wo_intB, wo_tup, wo_lst, wo_tupleL, wo_eqI, wo_eqB, wo_eqSt, wo_neS, wo_neB, wo_neI, wo_is, wo_isnot, wo_str, wo_isI_bl, wo_isI_int, wo_isI_str, wo_isI_tup, wo_isI_non, isI_same, List.map_cons, List.map_nil, List.length_cons, List.length_nil, Nat.reduceAdd, Nat.reduceSub, List.replicate, List.cons_append, List.nil_append, List.getElem?_cons_zero, List.getElem?_cons_succ, List.set_cons_zero, List.set_cons_succ, ex_some, ex_some1, ex_bl, ex_int, at3_0, at3_1, at3_2, at2_0, at2_1, lstOf_last, decide_eq_true_eq, st_0, st_1, st_w1, st_w2, st_push, st_len, st_2]
          refine (cell_ok ns _ S1 (k + 5 + 20 * i + 1 + 4 * j) many sh ki pj (by omega) (by omega) (by omega) (by omega) (by omega)).mono ?_
          rintro v S2 ⟨hv, p2'⟩
          refine ⟨⟨_, rfl⟩, by simp [hcs], fun c hcm => ?_, p2'.mono (by omega)⟩
          rcases List.mem_append.mp hcm with hcm | hcm
          · exact hc c hcm
          · have : c = v := by simpa using hcm
            rw [this]; exact hv) (asks : Int).toNat 0 _ S3 [] (by rw [rngD_len]; omega) ⟨⟨none, rfl⟩, rfl, (by intro c hc; cases hc), by simpa using p3'⟩
        rw [rngD_len] at hysc p9
        obtain ⟨hall, p9⟩ := p9
        rw [List.nil_append] at hysc hall
        refine ⟨ys, S9, e9, ?_, ?_⟩
        · have : (100 : Nat) < sizeLine := by decide
          omega
        · rw [wo_tupleL]
          refine ⟨ys, lstOf_last, ?_⟩
          obtain ⟨f1, f2, f3⟩ := fin (S9 ++ [.lst ys]) (.tup ys) ⟨ys, rfl, by omega, hall⟩ ((pn_app p9).mono (by omega))
          simp only [wo_append, f1, Option.some.injEq, Ob.lst.injEq, exists_eq_left']
          exact ⟨f2, by first | exact .inl rfl | exact .inl trivial | trivial, f3⟩
    · rintro f l' S' ⟨rfl, acc, x8, rfl, hacc, hroom, p⟩
      rw [rngD_len] at hacc p
      exact ⟨rfl, acc, x8, rfl, by omega, hroom, p.mono (by omega)⟩
  · rintro l S7 ⟨acc, x8, rfl, hacc, hroom, p⟩
    simp only [wo_run, ws_seq, ws_if, wt_e, we_op, we_un, we_var, we_c, ws_asg, ws_ret, ws_drop, ws_next, ws_break, ws_cont, wg_name, wg_sub, wg_tup, wg_nil, wg_cons, wg_dput, we_call, we_methL, we_methS, wa_cons, wa_nil, wt_and, wt_or, wt_not, we_and, we_or, we_not, we_if, wo_I0, wo_I, wo_plusAI, wo_plusAT, we_slA, wp_none, wp_some, ex_int1, wo_slT, wo_intAB, wo_times, wo_ixT, wo_ixL, wo_ixAT, wo_ixAL, wo_ixAS, wo_lenT, wo_lenL, wo_lenAT, wo_lenAL, wo_lenAS, wo_abs, wo_intB, wo_tup, wo_lst, wo_tupleL, wo_eqI, wo_eqB, wo_eqSt, wo_neS, wo_neB, wo_neI, wo_is, wo_isnot, wo_str, wo_isI_bl, wo_isI_int, wo_isI_str, wo_isI_tup, wo_isI_non, isI_same, List.map_cons, List.map_nil, List.length_cons, List.length_nil, Nat.reduceAdd, Nat.reduceSub, List.replicate, List.cons_append, List.nil_append, List.getElem?_cons_zero, List.getElem?_cons_succ, List.set_cons_zero, List.set_cons_succ, ex_some, ex_some1, ex_bl, ex_int, at3_0, at3_1, at3_2, at2_0, at2_1, lstOf_last, decide_eq_true_eq, st_0, st_1, st_w1, st_w2, st_push, st_len, st_2, pn_lst p]
    refine ⟨by decide, ⟨many, asks, ⟨acc, rfl, as1, as2, hacc, ma1, fun r hr => (hroom r hr).mono ki2⟩, ma2⟩, ?_⟩
    rw [hpre, List.append_assoc] at p
    exact p.start.mono (by omega)
end M
set_option Elab.async false
set_option maxHeartbeats 4000000
set_option maxRecDepth 100000
namespace M
open PySem L3 G
theorem sizeBig : 16000000 ≤ sizeLine := by decide
abbrev Cl := Option Nat × Option Nat
def oD : Option Nat → D
  | none => .non
  | some n => .int n
def cD (c : Cl) : D := .tup [oD c.1, oD c.2]
def rD (cs : List Cl) : D := .tup (cs.map cD)
def mD (asks : Nat) (rs : List (List Cl)) : D := .tup [.int (asks : Int), .tup (rs.map rD)]
structure OkM (asks : Nat) (rs : List (List Cl)) : Prop where
  a1 : 1 ≤ asks
  a4 : asks ≤ 4
  r1 : 1 ≤ rs.length
  r24 : rs.length ≤ 24
  len : ∀ cs ∈ rs, cs.length = asks
  go : ∀ cs ∈ rs, ∀ c ∈ cs, ∀ g, c.1 = some g → g < rs.length
theorem or0_oD {many : Int} {g : D} (h : Or0 many g) : ∃ o : Option Nat, g = oD o ∧ ∀ n, o = some n → (n : Int) < many := by
  rcases h with rfl | ⟨i, rfl, h1, h2⟩
  · exact ⟨none, rfl, fun n e => by cases e⟩
  · exact ⟨some i.toNat, by show D.int i = .int _; rw [Int.toNat_of_nonneg h1], fun n e => by cases e; omega⟩
theorem cells_of {many kinds : Int} : ∀ (vs : List D), (∀ v ∈ vs, IsCell many kinds v) → ∃ cs : List Cl, vs = cs.map cD ∧ ∀ c ∈ cs, ∀ g, c.1 = some g → (g : Int) < many
  | [], _ => ⟨[], rfl, fun t h => by cases h⟩
  | v :: vs, h => by
    obtain ⟨g, s, rfl, hg, hs⟩ := h v List.mem_cons_self
    obtain ⟨o1, rfl, h1⟩ := or0_oD hg
    obtain ⟨o2, rfl, h2⟩ := or0_oD hs
    obtain ⟨cs, h3, h4⟩ := cells_of vs fun u hu => h u (List.mem_cons_of_mem _ hu)
    refine ⟨(o1, o2) :: cs, by rw [h3]; rfl, fun t ht => ?_⟩
    rcases List.mem_cons.mp ht with rfl | ht
    · exact h1
    · exact h4 t ht
theorem rooms_of {asks : Nat} {many kinds : Int} : ∀ (vs : List D), (∀ v ∈ vs, IsRoom asks many kinds v) → ∃ rs : List (List Cl), vs = rs.map rD ∧ ∀ cs ∈ rs, cs.length = asks ∧ ∀ c ∈ cs, ∀ g, c.1 = some g → (g : Int) < many
  | [], _ => ⟨[], rfl, fun t h => by cases h⟩
  | v :: vs, h => by
    obtain ⟨cs, rfl, h1, h2⟩ := h v List.mem_cons_self
    obtain ⟨cl, rfl, h3⟩ := cells_of cs h2
    obtain ⟨rs, h4, h5⟩ := rooms_of vs fun u hu => h u (List.mem_cons_of_mem _ hu)
    refine ⟨cl :: rs, by rw [h4]; rfl, fun t ht => ?_⟩
    rcases List.mem_cons.mp ht with rfl | ht
    · exact ⟨by simpa using h1, h3⟩
    · exact h5 t ht
theorem mach_of {many : Int} {asks : Nat} {v : D} (h : IsMach many asks v) (hm : many ≤ 24) : ∃ rs, v = mD asks rs ∧ OkM asks rs ∧ (rs.length : Int) = many := by
  obtain ⟨rooms, rfl, h1, h2, h3, h4, h5⟩ := h
  obtain ⟨rs, rfl, h6⟩ := rooms_of rooms h5
  rw [List.length_map] at h3
  refine ⟨rs, rfl, ⟨h1, h2, by omega, by omega, fun cs hcs => (h6 cs hcs).1, fun cs hcs c hc g hg => ?_⟩, h3⟩
  have := (h6 cs hcs).2 c hc g hg
  omega
def cell (rs : List (List Cl)) (r a : Nat) : Cl := ((rs[r]?).bind fun cs => cs[a]?).getD (none, none)
def both (x y : Option Nat) : Option BF.P := x.bind fun i => y.bind fun j => some (i, j)
def unl (x y : Option Nat) : Bool := match x, y with
  | some i, some j => decide (i ≠ j)
  | _, _ => false
def nxt (rs : List (List Cl)) (p : BF.P) (a : Nat) : Option BF.P := both (cell rs p.1 a).1 (cell rs p.2 a).1
def fl (rs : List (List Cl)) (p : BF.P) (a : Nat) : Bool := unl (cell rs p.1 a).2 (cell rs p.2 a).2
section
variable {asks : Nat} {rs : List (List Cl)} {r a : Nat} {S : Sto} {Q : D → Sto → Prop}
theorem cell_at (h : OkM asks rs) (hr : r < rs.length) (ha : a < asks) : ∃ cs, rs[r]? = some cs ∧ cs[a]? = some (cell rs r a) ∧ cs ∈ rs ∧ cell rs r a ∈ cs := by
  have h1 : rs[r]? = some rs[r] := List.getElem?_eq_getElem hr
  have h2 : rs[r] ∈ rs := List.getElem_mem hr
  have h3 : a < rs[r].length := by rw [h.len _ h2]; exact ha
  have h4 : rs[r][a]? = some rs[r][a] := List.getElem?_eq_getElem h3
  have h5 : cell rs r a = rs[r][a] := by unfold cell; rw [h1]; show (rs[r][a]?).getD _ = _; rw [h4]; rfl
  exact ⟨_, h1, by rw [h5]; exact h4, h2, by rw [h5]; exact List.getElem_mem h3⟩
theorem cell_go (h : OkM asks rs) (hr : r < rs.length) (ha : a < asks) {g : Nat} (hg : (cell rs r a).1 = some g) : g < rs.length := by
  obtain ⟨cs, _, _, h1, h2⟩ := cell_at h hr ha
  exact h.go cs h1 _ h2 g hg
theorem nxt_in (h : OkM asks rs) {p q : BF.P} (hp : p.1 < rs.length ∧ p.2 < rs.length) (ha : a < asks) (e : nxt rs p a = some q) : q.1 < rs.length ∧ q.2 < rs.length := by
  unfold nxt both at e
  obtain ⟨i, h1, e⟩ := bnd e
  obtain ⟨j, h2, e⟩ := bnd e
  cases e
  exact ⟨cell_go h hp.1 ha h1, cell_go h hp.2 ha h2⟩
end
theorem isNon_oD (o : Option Nat) : isNon (oD o) = o.isNone := by cases o <;> rfl
theorem unlike_ok (x y : Option Nat) (S : Sto) : m_answers_unlike [oD x, oD y] S = some (.bl (unl x y), S) := by
  have : Wo (m_answers_unlike [oD x, oD y] S) fun v S' => v = .bl (unl x y) ∧ S' = S := by
    unfold m_answers_unlike b_answers_unlike
    simp only [wo_run, List.map_cons, List.map_nil, List.length_cons, List.length_nil, Nat.reduceAdd, Nat.reduceSub, List.replicate, List.cons_append, List.nil_append]
    cases x with
    | none =>
      simp only [wo_run, ws_seq, ws_if, wt_e, we_op, we_un, we_var, we_c, ws_asg, ws_ret, ws_drop, ws_next, ws_break, ws_cont, wg_name, wg_sub, wg_tup, wg_nil, wg_cons, wg_dput, we_call, we_methL, we_methS, wa_cons, wa_nil, wt_and, wt_or, wt_not, we_and, we_or, we_not, we_if, wo_I0, wo_I, wo_plusAI, wo_plusAT, we_slA, wp_none, wp_some, ex_int1, wo_slT, wo_intAB, wo_times, wo_ixT, wo_ixL, wo_ixAT, wo_ixAL, wo_ixAS, wo_lenT, wo_lenL, wo_lenAT, wo_lenAL, wo_lenAS, wo_abs, wo_intB, wo_tup, wo_lst, wo_tupleL, wo_eqI, wo_eqB, wo_eqSt, wo_neS, wo_neB, wo_neI, wo_is, wo_isnot, wo_str, wo_isI_bl, wo_isI_int, wo_isI_str, wo_isI_tup, wo_isI_non, isI_same, List.map_cons, List.map_nil, List.length_cons, List.length_nil, Nat.reduceAdd, Nat.reduceSub, List.replicate, List.cons_append, List.nil_append, List.getElem?_cons_zero, List.getElem?_cons_succ, List.set_cons_zero, List.set_cons_succ, ex_some, ex_some1, ex_bl, ex_int, at3_0, at3_1, at3_2, at2_0, at2_1, lstOf_last, decide_eq_true_eq, we_get1, we_get2, we_callV, we_fnc, we_dictT, wg_putX, isNon_oD, Option.isNone_none, Bool.not_true, Bool.false_eq_true, if_false]
      first | exact ⟨(by first | rfl | trivial), (by first | rfl | trivial)⟩ | exact ⟨(by first | rfl | trivial)⟩
    | some i =>
      cases y with
      | none =>
        simp only [wo_run, ws_seq, ws_if, wt_e, we_op, we_un, we_var, we_c, ws_asg, ws_ret, ws_drop, ws_next, ws_break, ws_cont, wg_name, wg_sub, wg_tup, wg_nil, wg_cons, wg_dput, we_call, we_methL, we_methS, wa_cons, wa_nil, wt_and, wt_or, wt_not, we_and, we_or, we_not, we_if, wo_I0, wo_I, wo_plusAI, wo_plusAT, we_slA, wp_none, wp_some, ex_int1, wo_slT, wo_intAB, wo_times, wo_ixT, wo_ixL, wo_ixAT, wo_ixAL, wo_ixAS, wo_lenT, wo_lenL, wo_lenAT, wo_lenAL, wo_lenAS, wo_abs, wo_intB, wo_tup, wo_lst, wo_tupleL, wo_eqI, wo_eqB, wo_eqSt, wo_neS, wo_neB, wo_neI, wo_is, wo_isnot, wo_str, wo_isI_bl, wo_isI_int, wo_isI_str, wo_isI_tup, wo_isI_non, isI_same, List.map_cons, List.map_nil, List.length_cons, List.length_nil, Nat.reduceAdd, Nat.reduceSub, List.replicate, List.cons_append, List.nil_append, List.getElem?_cons_zero, List.getElem?_cons_succ, List.set_cons_zero, List.set_cons_succ, ex_some, ex_some1, ex_bl, ex_int, at3_0, at3_1, at3_2, at2_0, at2_1, lstOf_last, decide_eq_true_eq, we_get1, we_get2, we_callV, we_fnc, we_dictT, wg_putX, isNon_oD, Option.isNone_none, Option.isNone_some, Bool.not_true, Bool.not_false, Bool.false_eq_true, if_false, if_true]
        first | exact ⟨(by first | rfl | trivial), (by first | rfl | trivial)⟩ | exact ⟨(by first | rfl | trivial)⟩
      | some j =>
        simp only [wo_run, ws_seq, ws_if, wt_e, we_op, we_un, we_var, we_c, ws_asg, ws_ret, ws_drop, ws_next, ws_break, ws_cont, wg_name, wg_sub, wg_tup, wg_nil, wg_cons, wg_dput, we_call, we_methL, we_methS, wa_cons, wa_nil, wt_and, wt_or, wt_not, we_and, we_or, we_not, we_if, wo_I0, wo_I, wo_plusAI, wo_plusAT, we_slA, wp_none, wp_some, ex_int1, wo_slT, wo_intAB, wo_times, wo_ixT, wo_ixL, wo_ixAT, wo_ixAL, wo_ixAS, wo_lenT, wo_lenL, wo_lenAT, wo_lenAL, wo_lenAS, wo_abs, wo_intB, wo_tup, wo_lst, wo_tupleL, wo_eqI, wo_eqB, wo_eqSt, wo_neS, wo_neB, wo_neI, wo_is, wo_isnot, wo_str, wo_isI_bl, wo_isI_int, wo_isI_str, wo_isI_tup, wo_isI_non, isI_same, List.map_cons, List.map_nil, List.length_cons, List.length_nil, Nat.reduceAdd, Nat.reduceSub, List.replicate, List.cons_append, List.nil_append, List.getElem?_cons_zero, List.getElem?_cons_succ, List.set_cons_zero, List.set_cons_succ, ex_some, ex_some1, ex_bl, ex_int, at3_0, at3_1, at3_2, at2_0, at2_1, lstOf_last, decide_eq_true_eq, we_get1, we_get2, we_callV, we_fnc, we_dictT, wg_putX, isNon_oD, Option.isNone_some, Bool.not_false, if_true, oD]
        refine ⟨?_, (by first | rfl | trivial)⟩
        unfold unl
        by_cases e : i = j
        · subst e; simp
        · simp [e]; omega
  obtain ⟨v, S', e, rfl, rfl⟩ := this
  exact e
theorem say_ok (c d : Cl) (S : Sto) : m_say_unlike [cD c, cD d] S = some (.bl (unl c.2 d.2), S) := by
  have : Wo (m_say_unlike [cD c, cD d] S) fun v S' => v = .bl (unl c.2 d.2) ∧ S' = S := by
    unfold m_say_unlike b_say_unlike
    simp only [wo_run, List.map_cons, List.map_nil, List.length_cons, List.length_nil, Nat.reduceAdd, Nat.reduceSub, List.replicate, List.cons_append, List.nil_append]
    simp only [wo_run, ws_seq, ws_if, wt_e, we_op, we_un, we_var, we_c, ws_asg, ws_ret, ws_drop, ws_next, ws_break, ws_cont, wg_name, wg_sub, wg_tup, wg_nil, wg_cons, wg_dput, we_call, we_methL, we_methS, wa_cons, wa_nil, wt_and, wt_or, wt_not, we_and, we_or, we_not, we_if, wo_I0, wo_I, wo_plusAI, wo_plusAT, we_slA, wp_none, wp_some, ex_int1, wo_slT, wo_intAB, wo_times, wo_ixT, wo_ixL, wo_ixAT, wo_ixAL, wo_ixAS, wo_lenT, wo_lenL, wo_lenAT, wo_lenAL, wo_lenAS, wo_abs, wo_intB, wo_tup, wo_lst, wo_tupleL, wo_eqI, wo_eqB, wo_eqSt, wo_neS, wo_neB, wo_neI, wo_is, wo_isnot, wo_str, wo_isI_bl, wo_isI_int, wo_isI_str, wo_isI_tup, wo_isI_non, isI_same, List.map_cons, List.map_nil, List.length_cons, List.length_nil, Nat.reduceAdd, Nat.reduceSub, List.replicate, List.cons_append, List.nil_append, List.getElem?_cons_zero, List.getElem?_cons_succ, List.set_cons_zero, List.set_cons_succ, ex_some, ex_some1, ex_bl, ex_int, at3_0, at3_1, at3_2, at2_0, at2_1, lstOf_last, decide_eq_true_eq, we_get1, we_get2, we_callV, we_fnc, we_dictT, wg_putX, cD]
    refine ⟨_, _, unlike_ok _ _ _, ?_⟩
    first | exact ⟨(by first | rfl | trivial), (by first | rfl | trivial)⟩ | exact ⟨(by first | rfl | trivial)⟩
  obtain ⟨v, S', e, rfl, rfl⟩ := this
  exact e
end M
set_option Elab.async false
set_option maxHeartbeats 4000000
set_option maxRecDepth 100000
namespace M
open PySem L3 G
def pD (p : BF.P) : D := .tup [.int (p.1 : Int), .int (p.2 : Int)]
def qD : Option BF.P → D
  | none => .non
  | some p => pD p
def wD (w : List Nat) : D := .tup (w.map fun (a : Nat) => D.int (a : Int))
def rowD : Option (List Nat) → D
  | none => .non
  | some w => wD w
def pI (p : BF.P) : List Int := [(p.1 : Int), (p.2 : Int)]
theorem pI_inj {p q : BF.P} (h : pI p = pI q) : p = q := by
  unfold pI at h
  simp at h
  exact Prod.ext (by omega) (by omega)
theorem pI_mem {p : BF.P} {ps : List BF.P} : pI p ∈ ps.map pI ↔ p ∈ ps := by
  constructor
  · intro h
    obtain ⟨q, hq, e⟩ := List.mem_map.mp h
    rw [← pI_inj e]; exact hq
  · exact fun h => List.mem_map.mpr ⟨p, h, rfl⟩
theorem cell_e {asks : Nat} {rs : List (List Cl)} {r a : Nat} (h : OkM asks rs) (hr : r < rs.length) (ha : a < asks) : ∃ cs : List Cl, L2.atI (rs.map rD) (r : Int) = some (.tup (cs.map cD)) ∧ L2.atI (cs.map cD) (a : Int) = some (.tup [oD (cell rs r a).1, oD (cell rs r a).2]) := by
  obtain ⟨cs, h1, h2, _⟩ := cell_at h hr ha
  exact ⟨cs, atI_get (by rw [List.getElem?_map, h1]; rfl), atI_get (by rw [List.getElem?_map, h2]; rfl)⟩
theorem wo_inN {x y : Option Nat} {neg : Bool} {S : Sto} {Q : D → Sto → Prop} : Wo (dIn neg .non (.tup [oD x, oD y]) S) Q = Q (.bl (if neg then (both x y).isSome else !(both x y).isSome)) S := by
  have : dIn neg .non (.tup [oD x, oD y]) S = some (.bl (if neg then (both x y).isSome else !(both x y).isSome), S) := by
    cases x <;> cases y <;> cases neg <;> rfl
  rw [this]; exact wo_some
theorem oD2_pD {x y : Option Nat} {p : BF.P} (h : both x y = some p) : D.tup [oD x, oD y] = pD p := by
  unfold both at h
  obtain ⟨i, h1, h⟩ := bnd h
  obtain ⟨j, h2, h⟩ := bnd h
  cases h; subst h1 h2; rfl
theorem lawunlike_ok {asks : Nat} {rs : List (List Cl)} {i j a : Nat} {S : Sto} (h : OkM asks rs) (hi : i < rs.length) (hj : j < rs.length) (ha : a < asks) : m_law_unlike [mD asks rs, .int (i : Int), .int (j : Int), .int (a : Int)] S = some (.bl (fl rs (i, j) a), S) := by
  obtain ⟨cs, e1, e2⟩ := cell_e h hi ha
  obtain ⟨ds, e3, e4⟩ := cell_e h hj ha
  have : Wo (m_law_unlike [mD asks rs, .int (i : Int), .int (j : Int), .int (a : Int)] S) fun v S' => v = .bl (fl rs (i, j) a) ∧ S' = S := by
    unfold m_law_unlike b_law_unlike fl
    simp only [wo_run, List.map_cons, List.map_nil, List.length_cons, List.length_nil, Nat.reduceAdd, Nat.reduceSub, List.replicate, List.cons_append, List.nil_append, mD]
    simp only [wo_run, ws_seq, ws_if, wt_e, we_op, we_un, we_var, we_c, ws_asg, ws_ret, ws_drop, ws_next, ws_break, ws_cont, wg_name, wg_sub, wg_tup, wg_nil, wg_cons, wg_dput, we_call, we_methL, we_methS, wa_cons, wa_nil, wt_and, wt_or, wt_not, we_and, we_or, we_not, we_if, wo_I0, wo_I, wo_plusAI, wo_plusAT, we_slA, wp_none, wp_some, ex_int1, wo_slT, wo_intAB, wo_times, wo_ixT, wo_ixL, wo_ixAT, wo_ixAL, wo_ixAS, wo_lenT, wo_lenL, wo_lenAT, wo_lenAL, wo_lenAS, wo_abs, wo_intB, wo_tup, wo_lst, wo_tupleL, wo_eqI, wo_eqB, wo_eqSt, wo_neS, wo_neB, wo_neI, wo_is, wo_isnot, wo_str, wo_isI_bl, wo_isI_int, wo_isI_str, wo_isI_tup, wo_isI_non, isI_same, List.map_cons, List.map_nil, List.length_cons, List.length_nil, Nat.reduceAdd, Nat.reduceSub, List.replicate, List.cons_append, List.nil_append, List.getElem?_cons_zero, List.getElem?_cons_succ, List.set_cons_zero, List.set_cons_succ, ex_some, ex_some1, ex_bl, ex_int, at3_0, at3_1, at3_2, at2_0, at2_1, lstOf_last, decide_eq_true_eq, we_get1, we_get2, we_callV, we_fnc, we_dictT, wg_putX, e1, e2, e3, e4, isNon_oD]
    cases (cell rs i a).2 with
    | none =>
      simp only [wo_run, ws_seq, ws_if, wt_e, we_op, we_un, we_var, we_c, ws_asg, ws_ret, ws_drop, ws_next, ws_break, ws_cont, wg_name, wg_sub, wg_tup, wg_nil, wg_cons, wg_dput, we_call, we_methL, we_methS, wa_cons, wa_nil, wt_and, wt_or, wt_not, we_and, we_or, we_not, we_if, wo_I0, wo_I, wo_plusAI, wo_plusAT, we_slA, wp_none, wp_some, ex_int1, wo_slT, wo_intAB, wo_times, wo_ixT, wo_ixL, wo_ixAT, wo_ixAL, wo_ixAS, wo_lenT, wo_lenL, wo_lenAT, wo_lenAL, wo_lenAS, wo_abs, wo_intB, wo_tup, wo_lst, wo_tupleL, wo_eqI, wo_eqB, wo_eqSt, wo_neS, wo_neB, wo_neI, wo_is, wo_isnot, wo_str, wo_isI_bl, wo_isI_int, wo_isI_str, wo_isI_tup, wo_isI_non, isI_same, List.map_cons, List.map_nil, List.length_cons, List.length_nil, Nat.reduceAdd, Nat.reduceSub, List.replicate, List.cons_append, List.nil_append, List.getElem?_cons_zero, List.getElem?_cons_succ, List.set_cons_zero, List.set_cons_succ, ex_some, ex_some1, ex_bl, ex_int, at3_0, at3_1, at3_2, at2_0, at2_1, lstOf_last, decide_eq_true_eq, we_get1, we_get2, we_callV, we_fnc, we_dictT, wg_putX, Option.isNone_none, Bool.not_true, Bool.false_eq_true, if_false]
      first | exact ⟨(by first | rfl | trivial), (by first | rfl | trivial)⟩ | exact ⟨(by first | rfl | trivial)⟩
    | some x =>
      cases (cell rs j a).2 with
      | none =>
        simp only [wo_run, ws_seq, ws_if, wt_e, we_op, we_un, we_var, we_c, ws_asg, ws_ret, ws_drop, ws_next, ws_break, ws_cont, wg_name, wg_sub, wg_tup, wg_nil, wg_cons, wg_dput, we_call, we_methL, we_methS, wa_cons, wa_nil, wt_and, wt_or, wt_not, we_and, we_or, we_not, we_if, wo_I0, wo_I, wo_plusAI, wo_plusAT, we_slA, wp_none, wp_some, ex_int1, wo_slT, wo_intAB, wo_times, wo_ixT, wo_ixL, wo_ixAT, wo_ixAL, wo_ixAS, wo_lenT, wo_lenL, wo_lenAT, wo_lenAL, wo_lenAS, wo_abs, wo_intB, wo_tup, wo_lst, wo_tupleL, wo_eqI, wo_eqB, wo_eqSt, wo_neS, wo_neB, wo_neI, wo_is, wo_isnot, wo_str, wo_isI_bl, wo_isI_int, wo_isI_str, wo_isI_tup, wo_isI_non, isI_same, List.map_cons, List.map_nil, List.length_cons, List.length_nil, Nat.reduceAdd, Nat.reduceSub, List.replicate, List.cons_append, List.nil_append, List.getElem?_cons_zero, List.getElem?_cons_succ, List.set_cons_zero, List.set_cons_succ, ex_some, ex_some1, ex_bl, ex_int, at3_0, at3_1, at3_2, at2_0, at2_1, lstOf_last, decide_eq_true_eq, we_get1, we_get2, we_callV, we_fnc, we_dictT, wg_putX, isNon_oD, Option.isNone_none, Option.isNone_some, Bool.not_true, Bool.not_false, Bool.false_eq_true, if_false, if_true]
        first | exact ⟨(by first | rfl | trivial), (by first | rfl | trivial)⟩ | exact ⟨(by first | rfl | trivial)⟩
      | some y =>
        simp only [wo_run, ws_seq, ws_if, wt_e, we_op, we_un, we_var, we_c, ws_asg, ws_ret, ws_drop, ws_next, ws_break, ws_cont, wg_name, wg_sub, wg_tup, wg_nil, wg_cons, wg_dput, we_call, we_methL, we_methS, wa_cons, wa_nil, wt_and, wt_or, wt_not, we_and, we_or, we_not, we_if, wo_I0, wo_I, wo_plusAI, wo_plusAT, we_slA, wp_none, wp_some, ex_int1, wo_slT, wo_intAB, wo_times, wo_ixT, wo_ixL, wo_ixAT, wo_ixAL, wo_ixAS, wo_lenT, wo_lenL, wo_lenAT, wo_lenAL, wo_lenAS, wo_abs, wo_intB, wo_tup, wo_lst, wo_tupleL, wo_eqI, wo_eqB, wo_eqSt, wo_neS, wo_neB, wo_neI, wo_is, wo_isnot, wo_str, wo_isI_bl, wo_isI_int, wo_isI_str, wo_isI_tup, wo_isI_non, isI_same, List.map_cons, List.map_nil, List.length_cons, List.length_nil, Nat.reduceAdd, Nat.reduceSub, List.replicate, List.cons_append, List.nil_append, List.getElem?_cons_zero, List.getElem?_cons_succ, List.set_cons_zero, List.set_cons_succ, ex_some, ex_some1, ex_bl, ex_int, at3_0, at3_1, at3_2, at2_0, at2_1, lstOf_last, decide_eq_true_eq, we_get1, we_get2, we_callV, we_fnc, we_dictT, wg_putX, isNon_oD, Option.isNone_some, Bool.not_false, if_true, oD]
        refine ⟨?_, (by first | rfl | trivial)⟩
        unfold unl
        by_cases e : x = y
        · subst e; simp
        · simp [e]; omega
  obtain ⟨v, S', e, rfl, rfl⟩ := this
  exact e
theorem lawboth_ok {asks : Nat} {rs : List (List Cl)} {i j a : Nat} {S : Sto} (h : OkM asks rs) (hi : i < rs.length) (hj : j < rs.length) (ha : a < asks) : m_law_both [mD asks rs, .int (i : Int), .int (j : Int), .int (a : Int)] S = some (qD (nxt rs (i, j) a), S) := by
  obtain ⟨cs, e1, e2⟩ := cell_e h hi ha
  obtain ⟨ds, e3, e4⟩ := cell_e h hj ha
  have sz2 : 2 ≤ sizeLine := by decide
  have : Wo (m_law_both [mD asks rs, .int (i : Int), .int (j : Int), .int (a : Int)] S) fun v S' => v = qD (nxt rs (i, j) a) ∧ S' = S := by
    unfold m_law_both b_law_both nxt
    simp only [wo_run, List.map_cons, List.map_nil, List.length_cons, List.length_nil, Nat.reduceAdd, Nat.reduceSub, List.replicate, List.cons_append, List.nil_append, mD]
    simp only [wo_run, ws_seq, ws_if, wt_e, we_op, we_un, we_var, we_c, ws_asg, ws_ret, ws_drop, ws_next, ws_break, ws_cont, wg_name, wg_sub, wg_tup, wg_nil, wg_cons, wg_dput, we_call, we_methL, we_methS, wa_cons, wa_nil, wt_and, wt_or, wt_not, we_and, we_or, we_not, we_if, wo_I0, wo_I, wo_plusAI, wo_plusAT, we_slA, wp_none, wp_some, ex_int1, wo_slT, wo_intAB, wo_times, wo_ixT, wo_ixL, wo_ixAT, wo_ixAL, wo_ixAS, wo_lenT, wo_lenL, wo_lenAT, wo_lenAL, wo_lenAS, wo_abs, wo_intB, wo_tup, wo_lst, wo_tupleL, wo_eqI, wo_eqB, wo_eqSt, wo_neS, wo_neB, wo_neI, wo_is, wo_isnot, wo_str, wo_isI_bl, wo_isI_int, wo_isI_str, wo_isI_tup, wo_isI_non, isI_same, List.map_cons, List.map_nil, List.length_cons, List.length_nil, Nat.reduceAdd, Nat.reduceSub, List.replicate, List.cons_append, List.nil_append, List.getElem?_cons_zero, List.getElem?_cons_succ, List.set_cons_zero, List.set_cons_succ, ex_some, ex_some1, ex_bl, ex_int, at3_0, at3_1, at3_2, at2_0, at2_1, lstOf_last, decide_eq_true_eq, we_get1, we_get2, we_callV, we_fnc, we_dictT, wg_putX, e1, e2, e3, e4, sz2, true_and, wo_inN]
    cases c : both (cell rs i a).1 (cell rs j a).1 with
    | none =>
      simp only [wo_run, ws_seq, ws_if, wt_e, we_op, we_un, we_var, we_c, ws_asg, ws_ret, ws_drop, ws_next, ws_break, ws_cont, wg_name, wg_sub, wg_tup, wg_nil, wg_cons, wg_dput, we_call, we_methL, we_methS, wa_cons, wa_nil, wt_and, wt_or, wt_not, we_and, we_or, we_not, we_if, wo_I0, wo_I, wo_plusAI, wo_plusAT, we_slA, wp_none, wp_some, ex_int1, wo_slT, wo_intAB, wo_times, wo_ixT, wo_ixL, wo_ixAT, wo_ixAL, wo_ixAS, wo_lenT, wo_lenL, wo_lenAT, wo_lenAL, wo_lenAS, wo_abs, wo_intB, wo_tup, wo_lst, wo_tupleL, wo_eqI, wo_eqB, wo_eqSt, wo_neS, wo_neB, wo_neI, wo_is, wo_isnot, wo_str, wo_isI_bl, wo_isI_int, wo_isI_str, wo_isI_tup, wo_isI_non, isI_same, List.map_cons, List.map_nil, List.length_cons, List.length_nil, Nat.reduceAdd, Nat.reduceSub, List.replicate, List.cons_append, List.nil_append, List.getElem?_cons_zero, List.getElem?_cons_succ, List.set_cons_zero, List.set_cons_succ, ex_some, ex_some1, ex_bl, ex_int, at3_0, at3_1, at3_2, at2_0, at2_1, lstOf_last, decide_eq_true_eq, we_get1, we_get2, we_callV, we_fnc, we_dictT, wg_putX, Option.isSome_none, Bool.not_false, Bool.false_eq_true, if_false, if_true]
      first | exact ⟨(by first | rfl | trivial), (by first | rfl | trivial)⟩ | exact ⟨(by first | rfl | trivial)⟩
    | some p =>
      simp only [wo_run, ws_seq, ws_if, wt_e, we_op, we_un, we_var, we_c, ws_asg, ws_ret, ws_drop, ws_next, ws_break, ws_cont, wg_name, wg_sub, wg_tup, wg_nil, wg_cons, wg_dput, we_call, we_methL, we_methS, wa_cons, wa_nil, wt_and, wt_or, wt_not, we_and, we_or, we_not, we_if, wo_I0, wo_I, wo_plusAI, wo_plusAT, we_slA, wp_none, wp_some, ex_int1, wo_slT, wo_intAB, wo_times, wo_ixT, wo_ixL, wo_ixAT, wo_ixAL, wo_ixAS, wo_lenT, wo_lenL, wo_lenAT, wo_lenAL, wo_lenAS, wo_abs, wo_intB, wo_tup, wo_lst, wo_tupleL, wo_eqI, wo_eqB, wo_eqSt, wo_neS, wo_neB, wo_neI, wo_is, wo_isnot, wo_str, wo_isI_bl, wo_isI_int, wo_isI_str, wo_isI_tup, wo_isI_non, isI_same, List.map_cons, List.map_nil, List.length_cons, List.length_nil, Nat.reduceAdd, Nat.reduceSub, List.replicate, List.cons_append, List.nil_append, List.getElem?_cons_zero, List.getElem?_cons_succ, List.set_cons_zero, List.set_cons_succ, ex_some, ex_some1, ex_bl, ex_int, at3_0, at3_1, at3_2, at2_0, at2_1, lstOf_last, decide_eq_true_eq, we_get1, we_get2, we_callV, we_fnc, we_dictT, wg_putX, Option.isSome_some, Bool.not_true, Bool.false_eq_true, if_false, oD2_pD c]
      first | exact ⟨(by first | rfl | trivial), (by first | rfl | trivial)⟩ | exact ⟨(by first | rfl | trivial)⟩
  obtain ⟨v, S', e, rfl, rfl⟩ := this
  exact e
def nx2 (rs rs2 : List (List Cl)) (p : BF.P) (a : Nat) : Option BF.P := both (cell rs p.1 a).1 (cell rs2 p.2 a).1
def fl2 (rs rs2 : List (List Cl)) (p : BF.P) (a : Nat) : Bool := unl (cell rs p.1 a).2 (cell rs2 p.2 a).2
def Wk (asks : Nat) (rs rs2 : List (List Cl)) (p : BF.P) (r : Option (List Nat)) : Prop := match r with
  | some w => BF.Least asks (nx2 rs rs2) (fl2 rs rs2) p w
  | none => ∀ w, ¬ BF.Fails asks (nx2 rs rs2) (fl2 rs rs2) p w
theorem nx2_in {asks : Nat} {rs rs2 : List (List Cl)} (h : OkM asks rs) (h' : OkM asks rs2) {p q : BF.P} {a : Nat} (hp : p.1 < rs.length ∧ p.2 < rs2.length) (ha : a < asks) (e : nx2 rs rs2 p a = some q) : q.1 < rs.length ∧ q.2 < rs2.length := by
  unfold nx2 both at e
  obtain ⟨i, h1, e⟩ := bnd e
  obtain ⟨j, h2, e⟩ := bnd e
  cases e
  exact ⟨cell_go h hp.1 ha h1, cell_go h' hp.2 ha h2⟩
theorem wD_app (w : List Nat) (a : Nat) : D.tup ((w.map fun (a : Nat) => D.int (a : Int)) ++ [.int (a : Int)]) = wD (w ++ [a]) := by unfold wD; rw [List.map_append]; rfl
theorem intsD_pI (p : BF.P) : intsD [.int (p.1 : Int), .int (p.2 : Int)] = some (pI p) := rfl
structure Wst (asks : Nat) (rs rs2 : List (List Cl)) (p0 : BF.P) (S S1 : Sto) (ps : List BF.P) (ws : List (List Nat)) (i c : Nat) : Prop where
  b : BF.Bf asks (nx2 rs rs2) (fl2 rs rs2) p0 ps ws i c
  inn : ∀ p ∈ ps, p.1 < rs.length ∧ p.2 < rs2.length
  ln : ∀ (k : Nat) w, ws[k]? = some w → w.length ≤ k
  g : Gr S S1
  s0 : S1[S.length]? = some (.lst (ps.map pD))
  s1 : S1[S.length + 1]? = some (.lst (ws.map wD))
  s2 : S1[S.length + 2]? = some (.tset (ps.map pI))
theorem Wst.few {asks : Nat} {rs rs2 : List (List Cl)} {p0 : BF.P} {S S1 : Sto} {ps : List BF.P} {ws : List (List Nat)} {i c : Nat} (w : Wst asks rs rs2 p0 S S1 ps ws i c) (h : OkM asks rs) (h' : OkM asks rs2) : ps.length ≤ 576 := by
  have h1 := BF.few2 ps w.b.nd w.inn
  have h2 : rs.length * rs2.length ≤ 24 * 24 := Nat.mul_le_mul h.r24 h'.r24
  omega
theorem Wst.put {asks : Nat} {rs rs2 : List (List Cl)} {p0 q q' : BF.P} {S S1 : Sto} {ps : List BF.P} {ws : List (List Nat)} {u : List Nat} {i c : Nat} (w : Wst asks rs rs2 p0 S S1 ps ws i c) (h : OkM asks rs) (h' : OkM asks rs2) (hc : c < asks) (hq : ps[i]? = some q) (hw : ws[i]? = some u) (hf : fl2 rs rs2 q c = false) (hs : nx2 rs rs2 q c = some q') (hn : q' ∉ ps) :
    Wst asks rs rs2 p0 S (((S1.set (S.length + 2) (.tset (ps.map pI ++ [pI q']))).set S.length (.lst (ps.map pD ++ [pD q']))).set (S.length + 1) (.lst (ws.map wD ++ [wD (u ++ [c])]))) (ps ++ [q']) (ws ++ [u ++ [c]]) i (c + 1) := by
  refine ⟨w.b.push hc hq hw hf hs hn, fun p hp => ?_, fun k v hv => ?_, ((w.g.set (by omega) _).set (by omega) _).set (by omega) _, ?_, ?_, ?_⟩
  · rcases List.mem_append.mp hp with hp | hp
    · exact w.inn p hp
    · have : p = q' := by simpa using hp
      subst this
      exact nx2_in h h' (w.inn q (List.mem_of_getElem? hq)) hc hs
  · rcases BF.get_snoc hv with hv | ⟨rfl, rfl⟩
    · exact w.ln k v hv
    · have := w.ln i u hw
      have := (List.getElem?_eq_some_iff.mp hw).1
      simp; omega
  · rw [List.map_append]
    exact get_set_ne (get_set (get_set_ne w.s0 (by omega))) (by omega)
  · rw [List.map_append]
    exact get_set (get_set_ne (get_set_ne w.s1 (by omega)) (by omega))
  · rw [List.map_append]
    exact get_set_ne (get_set_ne (get_set w.s2) (by omega)) (by omega)
theorem walkboth_ok {asks : Nat} {rs rs2 : List (List Cl)} {i j f : Nat} {S : Sto} (h : OkM asks rs) (h' : OkM asks rs2) (hi : i < rs.length) (hj : j < rs2.length) (hf : S[f]? = some (.fnc "say_unlike")) :
    Wo (m_walk_both [mD asks rs, mD asks rs2, pD (i, j), .ref f] S) fun v S' => Gr S S' ∧ ∃ r n, v = .tup [rowD r, .ref n] ∧ Wk asks rs rs2 (i, j) r := by
  have sz := sizeBig
  unfold m_walk_both b_walk_both
  simp only [wo_run, List.map_cons, List.map_nil, List.length_cons, List.length_nil, Nat.reduceAdd, Nat.reduceSub, List.replicate, List.cons_append, List.nil_append]
  generalize hM : mD asks rs = dM
  generalize hO : mD asks rs2 = dO
  generalize hB : pD (i, j) = dB
  refine ws_cut (fun l S1 => l = [some dM, some dO, some dB, some (.ref f), some (.ref S.length), none, none, none, none, none, none, none, none, none, none] ∧ S1 = S ++ [.lst [dB]]) ?_ ?_
  · simp only [wo_run, ws_seq, ws_if, wt_e, we_op, we_un, we_var, we_c, ws_asg, ws_ret, ws_drop, ws_next, ws_break, ws_cont, wg_name, wg_sub, wg_tup, wg_nil, wg_cons, wg_dput, we_call, we_methL, we_methS, wa_cons, wa_nil, wt_and, wt_or, wt_not, we_and, we_or, we_not, we_if, wo_I0, wo_I, wo_plusAI, wo_plusAT, we_slA, wp_none, wp_some, ex_int1, wo_slT, wo_intAB, wo_times, wo_ixT, wo_ixL, wo_ixAT, wo_ixAL, wo_ixAS, wo_lenT, wo_lenL, wo_lenAT, wo_lenAL, wo_lenAS, wo_abs, wo_intB, wo_tup, wo_lst, wo_tupleL, wo_eqI, wo_eqB, wo_eqSt, wo_neS, wo_neB, wo_neI, wo_is, wo_isnot, wo_str, wo_isI_bl, wo_isI_int, wo_isI_str, wo_isI_tup, wo_isI_non, isI_same, List.map_cons, List.map_nil, List.length_cons, List.length_nil, Nat.reduceAdd, Nat.reduceSub, List.replicate, List.cons_append, List.nil_append, List.getElem?_cons_zero, List.getElem?_cons_succ, List.set_cons_zero, List.set_cons_succ, ex_some, ex_some1, ex_bl, ex_int, at3_0, at3_1, at3_2, at2_0, at2_1, lstOf_last, decide_eq_true_eq, we_get1, we_get2, we_callV, we_fnc, we_dictT, wg_putX]
    exact ⟨by omega, (by first | rfl | trivial), (by first | rfl | trivial), (by first | rfl | trivial)⟩
  rintro l S1 ⟨rfl, rfl⟩
  refine ws_cut (fun l S1 => l = [some dM, some dO, some dB, some (.ref f), some (.ref S.length), some (.ref (S.length + 1)), none, none, none, none, none, none, none, none, none] ∧ S1 = S ++ [.lst [dB]] ++ [.lst [.tup []]]) ?_ ?_
  · simp only [wo_run, ws_seq, ws_if, wt_e, we_op, we_un, we_var, we_c, ws_asg, ws_ret, ws_drop, ws_next, ws_break, ws_cont, wg_name, wg_sub, wg_tup, wg_nil, wg_cons, wg_dput, we_call, we_methL, we_methS, wa_cons, wa_nil, wt_and, wt_or, wt_not, we_and, we_or, we_not, we_if, wo_I0, wo_I, wo_plusAI, wo_plusAT, we_slA, wp_none, wp_some, ex_int1, wo_slT, wo_intAB, wo_times, wo_ixT, wo_ixL, wo_ixAT, wo_ixAL, wo_ixAS, wo_lenT, wo_lenL, wo_lenAT, wo_lenAL, wo_lenAS, wo_abs, wo_intB, wo_tup, wo_lst, wo_tupleL, wo_eqI, wo_eqB, wo_eqSt, wo_neS, wo_neB, wo_neI, wo_is, wo_isnot, wo_str, wo_isI_bl, wo_isI_int, wo_isI_str, wo_isI_tup, wo_isI_non, isI_same, List.map_cons, List.map_nil, List.length_cons, List.length_nil, Nat.reduceAdd, Nat.reduceSub, List.replicate, List.cons_append, List.nil_append, List.getElem?_cons_zero, List.getElem?_cons_succ, List.set_cons_zero, List.set_cons_succ, ex_some, ex_some1, ex_bl, ex_int, at3_0, at3_1, at3_2, at2_0, at2_1, lstOf_last, decide_eq_true_eq, we_get1, we_get2, we_callV, we_fnc, we_dictT, wg_putX, List.length_append]
    exact ⟨by omega, by omega, (by first | rfl | trivial), (by first | rfl | trivial), (by first | rfl | trivial)⟩
  rintro l S1 ⟨rfl, rfl⟩
  refine ws_cut (fun l S1 => l = [some dM, some dO, some dB, some (.ref f), some (.ref S.length), some (.ref (S.length + 1)), some (.ref (S.length + 2)), none, none, none, none, none, none, none, none] ∧ S1 = S ++ [.lst [dB]] ++ [.lst [.tup []]] ++ [.tset [pI (i, j)]]) ?_ ?_
  · rw [ws_asg, we_setV (ds := [.int (i : Int), .int (j : Int)]) (k := pI (i, j)) (by rw [← hB]; rfl) rfl]
    simp only [wo_run, ws_seq, ws_if, wt_e, we_op, we_un, we_var, we_c, ws_asg, ws_ret, ws_drop, ws_next, ws_break, ws_cont, wg_name, wg_sub, wg_tup, wg_nil, wg_cons, wg_dput, we_call, we_methL, we_methS, wa_cons, wa_nil, wt_and, wt_or, wt_not, we_and, we_or, we_not, we_if, wo_I0, wo_I, wo_plusAI, wo_plusAT, we_slA, wp_none, wp_some, ex_int1, wo_slT, wo_intAB, wo_times, wo_ixT, wo_ixL, wo_ixAT, wo_ixAL, wo_ixAS, wo_lenT, wo_lenL, wo_lenAT, wo_lenAL, wo_lenAS, wo_abs, wo_intB, wo_tup, wo_lst, wo_tupleL, wo_eqI, wo_eqB, wo_eqSt, wo_neS, wo_neB, wo_neI, wo_is, wo_isnot, wo_str, wo_isI_bl, wo_isI_int, wo_isI_str, wo_isI_tup, wo_isI_non, isI_same, List.map_cons, List.map_nil, List.length_cons, List.length_nil, Nat.reduceAdd, Nat.reduceSub, List.replicate, List.cons_append, List.nil_append, List.getElem?_cons_zero, List.getElem?_cons_succ, List.set_cons_zero, List.set_cons_succ, ex_some, ex_some1, ex_bl, ex_int, at3_0, at3_1, at3_2, at2_0, at2_1, lstOf_last, decide_eq_true_eq, we_get1, we_get2, we_callV, we_fnc, we_dictT, wg_putX, List.length_append]
    first | exact ⟨(by first | rfl | trivial), (by first | rfl | trivial), (by first | rfl | trivial)⟩ | exact ⟨(by first | rfl | trivial), (by first | rfl | trivial)⟩
  rintro l S1 ⟨rfl, rfl⟩
  refine ws_cut (fun l S1 => l = [some dM, some dO, some dB, some (.ref f), some (.ref S.length), some (.ref (S.length + 1)), some (.ref (S.length + 2)), some (.int ((0 : Nat) : Int)), none, none, none, none, none, none, none] ∧ S1 = S ++ [.lst [dB]] ++ [.lst [.tup []]] ++ [.tset [pI (i, j)]]) ?_ ?_
  · simp only [wo_run, ws_seq, ws_if, wt_e, we_op, we_un, we_var, we_c, ws_asg, ws_ret, ws_drop, ws_next, ws_break, ws_cont, wg_name, wg_sub, wg_tup, wg_nil, wg_cons, wg_dput, we_call, we_methL, we_methS, wa_cons, wa_nil, wt_and, wt_or, wt_not, we_and, we_or, we_not, we_if, wo_I0, wo_I, wo_plusAI, wo_plusAT, we_slA, wp_none, wp_some, ex_int1, wo_slT, wo_intAB, wo_times, wo_ixT, wo_ixL, wo_ixAT, wo_ixAL, wo_ixAS, wo_lenT, wo_lenL, wo_lenAT, wo_lenAL, wo_lenAS, wo_abs, wo_intB, wo_tup, wo_lst, wo_tupleL, wo_eqI, wo_eqB, wo_eqSt, wo_neS, wo_neB, wo_neI, wo_is, wo_isnot, wo_str, wo_isI_bl, wo_isI_int, wo_isI_str, wo_isI_tup, wo_isI_non, isI_same, List.map_cons, List.map_nil, List.length_cons, List.length_nil, Nat.reduceAdd, Nat.reduceSub, List.replicate, List.cons_append, List.nil_append, List.getElem?_cons_zero, List.getElem?_cons_succ, List.set_cons_zero, List.set_cons_succ, ex_some, ex_some1, ex_bl, ex_int, at3_0, at3_1, at3_2, at2_0, at2_1, lstOf_last, decide_eq_true_eq, we_get1, we_get2, we_callV, we_fnc, we_dictT, wg_putX]
    first | exact ⟨(by first | rfl | trivial), (by first | rfl | trivial), (by first | rfl | trivial)⟩ | exact ⟨(by first | rfl | trivial), (by first | rfl | trivial)⟩
  rintro l S1 ⟨rfl, rfl⟩
  have w0 : Wst asks rs rs2 (i, j) S (S ++ [.lst [dB]] ++ [.lst [.tup []]] ++ [.tset [pI (i, j)]]) [(i, j)] [[]] 0 0 := by
    refine ⟨.start _, fun p hp => ?_, fun k w hw => ?_, ?_, ?_, ?_, ?_⟩
    · have : p = (i, j) := by simpa using hp
      subst this; exact ⟨hi, hj⟩
    · cases k with
      | zero => have : w = [] := by simpa using hw.symm
                subst this; simp
      | succ k => simp at hw
    · exact ((Gr.refl S).push _).push _ |>.push _
    · rw [← hB]; exact get_old (get_old get_new)
    · exact get_old (by have := @get_new (S ++ [Ob.lst [dB]]) (.lst [.tup []]); rw [List.length_append] at this; exact this)
    · have := @get_new (S ++ [Ob.lst [dB]] ++ [Ob.lst [.tup []]]) (.tset [pI (i, j)]); rw [List.length_append, List.length_append] at this; exact this
  refine ws_cutO (fun l S1 => ∃ ps ws x8 x9 x10 x11 x12 x13 x14 ii, l = [some dM, some dO, some dB, some (.ref f), some (.ref S.length), some (.ref (S.length + 1)), some (.ref (S.length + 2)), some (.int ((ii : Nat) : Int)), x8, x9, x10, x11, x12, x13, x14] ∧ ii = ps.length ∧ Wst asks rs rs2 (i, j) S S1 ps ws ii 0) (fun d S1 => Gr S S1 ∧ ∃ r n, d = .tup [rowD r, .ref n] ∧ Wk asks rs rs2 (i, j) r) ?_ ?_ (fun d l1 S1 o => o)
  · refine ws_whl (fun m l S1 => ∃ ps ws x8 x9 x10 x11 x12 x13 x14, ∃ ii : Nat, l = [some dM, some dO, some dB, some (.ref f), some (.ref S.length), some (.ref (S.length + 1)), some (.ref (S.length + 2)), some (.int (ii : Int)), x8, x9, x10, x11, x12, x13, x14] ∧ ii ≤ ps.length ∧ m + ii = 600 ∧ Wst asks rs rs2 (i, j) S S1 ps ws ii 0) (fun d S1 => Gr S S1 ∧ ∃ r n, d = .tup [rowD r, .ref n] ∧ Wk asks rs rs2 (i, j) r) (fun l S1 => ∃ ps ws x8 x9 x10 x11 x12 x13 x14, ∃ ii : Nat, l = [some dM, some dO, some dB, some (.ref f), some (.ref S.length), some (.ref (S.length + 1)), some (.ref (S.length + 2)), some (.int (ii : Int)), x8, x9, x10, x11, x12, x13, x14] ∧ ii = ps.length ∧ Wst asks rs rs2 (i, j) S S1 ps ws ii 0) 600 (by decide) ⟨_, _, _, _, _, _, _, _, _, 0, rfl, Nat.zero_le _, rfl, w0⟩ ?_ (fun l' S' q => .inl ⟨rfl, q⟩) (fun d l' S' q => .inr ⟨d, rfl, q⟩)
    rintro m l S1 ⟨ps, ws, x8, x9, x10, x11, x12, x13, x14, ii, rfl, hii, hm, w⟩
    have hfew := w.few h h'
    simp only [wt_e, we_op, we_un, we_var, we_c, wg_name, wg_sub, wg_tup, wg_nil, wg_cons, wg_dput, we_call, we_methL, we_methS, wa_cons, wa_nil, wt_and, wt_or, wt_not, we_and, we_or, we_not, we_if, wo_I0, wo_I, wo_plusAI, wo_plusAT, we_slA, wp_none, wp_some, ex_int1, wo_slT, wo_intAB, wo_times, wo_ixT, wo_ixL, wo_ixAT, wo_ixAL, wo_ixAS, wo_lenT, wo_lenL, wo_lenAT, wo_lenAL, wo_lenAS, wo_abs, wo_intB, wo_tup, wo_lst, wo_tupleL, wo_eqI, wo_eqB, wo_eqSt, wo_neS, wo_neB, wo_neI, wo_is, wo_isnot, wo_str, wo_isI_bl, wo_isI_int, wo_isI_str, wo_isI_tup, wo_isI_non, isI_same, List.map_cons, List.map_nil, List.length_cons, List.length_nil, Nat.reduceAdd, Nat.reduceSub, List.replicate, List.cons_append, List.nil_append, List.getElem?_cons_zero, List.getElem?_cons_succ, List.set_cons_zero, List.set_cons_succ, ex_some, ex_some1, ex_bl, ex_int, at3_0, at3_1, at3_2, at2_0, at2_1, lstOf_last, decide_eq_true_eq, we_get1, we_get2, we_callV, we_fnc, we_dictT, wg_putX, lstOf_of w.s0, List.length_map]
    split
    · rename_i hlt
      have hlt : ii < ps.length := by omega
      have hwl : ii < ws.length := by rw [w.b.len]; exact hlt
      obtain ⟨q, hq⟩ : ∃ q, ps[ii]? = some q := ⟨_, List.getElem?_eq_getElem hlt⟩
      obtain ⟨u, hu⟩ : ∃ u, ws[ii]? = some u := ⟨_, List.getElem?_eq_getElem hwl⟩
      have hqi := w.inn q (List.mem_of_getElem? hq)
      have e1 : L2.atI (ps.map pD) (ii : Int) = some (.tup [.int (q.1 : Int), .int (q.2 : Int)]) := atI_get (by rw [List.getElem?_map, hq]; rfl)
      have e2 : L2.atI (ws.map wD) (ii : Int) = some (wD u) := atI_get (by rw [List.getElem?_map, hu]; rfl)
      refine ws_cut (fun l S2 => l = [some dM, some dO, some dB, some (.ref f), some (.ref S.length), some (.ref (S.length + 1)), some (.ref (S.length + 2)), some (.int (ii : Int)), some (.int (q.1 : Int)), some (.int (q.2 : Int)), x10, x11, x12, x13, x14] ∧ S2 = S1) ?_ ?_
      · simp only [wo_run, ws_seq, ws_if, wt_e, we_op, we_un, we_var, we_c, ws_asg, ws_ret, ws_drop, ws_next, ws_break, ws_cont, wg_name, wg_sub, wg_tup, wg_nil, wg_cons, wg_dput, we_call, we_methL, we_methS, wa_cons, wa_nil, wt_and, wt_or, wt_not, we_and, we_or, we_not, we_if, wo_I0, wo_I, wo_plusAI, wo_plusAT, we_slA, wp_none, wp_some, ex_int1, wo_slT, wo_intAB, wo_times, wo_ixT, wo_ixL, wo_ixAT, wo_ixAL, wo_ixAS, wo_lenT, wo_lenL, wo_lenAT, wo_lenAL, wo_lenAS, wo_abs, wo_intB, wo_tup, wo_lst, wo_tupleL, wo_eqI, wo_eqB, wo_eqSt, wo_neS, wo_neB, wo_neI, wo_is, wo_isnot, wo_str, wo_isI_bl, wo_isI_int, wo_isI_str, wo_isI_tup, wo_isI_non, isI_same, List.map_cons, List.map_nil, List.length_cons, List.length_nil, Nat.reduceAdd, Nat.reduceSub, List.replicate, List.cons_append, List.nil_append, List.getElem?_cons_zero, List.getElem?_cons_succ, List.set_cons_zero, List.set_cons_succ, ex_some, ex_some1, ex_bl, ex_int, at3_0, at3_1, at3_2, at2_0, at2_1, lstOf_last, decide_eq_true_eq, we_get1, we_get2, we_callV, we_fnc, we_dictT, wg_putX, lstOf_of w.s0, e1, true_and]
        all_goals first | trivial | exact ⟨(by first | rfl | trivial), (by first | rfl | trivial)⟩
      rintro l S2 ⟨rfl, rfl⟩
      refine ws_cut (fun l S3 => l = [some dM, some dO, some dB, some (.ref f), some (.ref S.length), some (.ref (S.length + 1)), some (.ref (S.length + 2)), some (.int (ii : Int)), some (.int (q.1 : Int)), some (.int (q.2 : Int)), some (wD u), x11, x12, x13, x14] ∧ S3 = S2) ?_ ?_
      · simp only [wo_run, ws_seq, ws_if, wt_e, we_op, we_un, we_var, we_c, ws_asg, ws_ret, ws_drop, ws_next, ws_break, ws_cont, wg_name, wg_sub, wg_tup, wg_nil, wg_cons, wg_dput, we_call, we_methL, we_methS, wa_cons, wa_nil, wt_and, wt_or, wt_not, we_and, we_or, we_not, we_if, wo_I0, wo_I, wo_plusAI, wo_plusAT, we_slA, wp_none, wp_some, ex_int1, wo_slT, wo_intAB, wo_times, wo_ixT, wo_ixL, wo_ixAT, wo_ixAL, wo_ixAS, wo_lenT, wo_lenL, wo_lenAT, wo_lenAL, wo_lenAS, wo_abs, wo_intB, wo_tup, wo_lst, wo_tupleL, wo_eqI, wo_eqB, wo_eqSt, wo_neS, wo_neB, wo_neI, wo_is, wo_isnot, wo_str, wo_isI_bl, wo_isI_int, wo_isI_str, wo_isI_tup, wo_isI_non, isI_same, List.map_cons, List.map_nil, List.length_cons, List.length_nil, Nat.reduceAdd, Nat.reduceSub, List.replicate, List.cons_append, List.nil_append, List.getElem?_cons_zero, List.getElem?_cons_succ, List.set_cons_zero, List.set_cons_succ, ex_some, ex_some1, ex_bl, ex_int, at3_0, at3_1, at3_2, at2_0, at2_1, lstOf_last, decide_eq_true_eq, we_get1, we_get2, we_callV, we_fnc, we_dictT, wg_putX, lstOf_of w.s1, e2, true_and]
        all_goals first | trivial | exact ⟨(by first | rfl | trivial), (by first | rfl | trivial)⟩
      rintro l S3 ⟨rfl, rfl⟩
      refine ws_cut (fun l S4 => l = [some dM, some dO, some dB, some (.ref f), some (.ref S.length), some (.ref (S.length + 1)), some (.ref (S.length + 2)), some (.int ((ii + 1 : Nat) : Int)), some (.int (q.1 : Int)), some (.int (q.2 : Int)), some (wD u), x11, x12, x13, x14] ∧ S4 = S3) ?_ ?_
      · simp only [wo_run, ws_seq, ws_if, wt_e, we_op, we_un, we_var, we_c, ws_asg, ws_ret, ws_drop, ws_next, ws_break, ws_cont, wg_name, wg_sub, wg_tup, wg_nil, wg_cons, wg_dput, we_call, we_methL, we_methS, wa_cons, wa_nil, wt_and, wt_or, wt_not, we_and, we_or, we_not, we_if, wo_I0, wo_I, wo_plusAI, wo_plusAT, we_slA, wp_none, wp_some, ex_int1, wo_slT, wo_intAB, wo_times, wo_ixT, wo_ixL, wo_ixAT, wo_ixAL, wo_ixAS, wo_lenT, wo_lenL, wo_lenAT, wo_lenAL, wo_lenAS, wo_abs, wo_intB, wo_tup, wo_lst, wo_tupleL, wo_eqI, wo_eqB, wo_eqSt, wo_neS, wo_neB, wo_neI, wo_is, wo_isnot, wo_str, wo_isI_bl, wo_isI_int, wo_isI_str, wo_isI_tup, wo_isI_non, isI_same, List.map_cons, List.map_nil, List.length_cons, List.length_nil, Nat.reduceAdd, Nat.reduceSub, List.replicate, List.cons_append, List.nil_append, List.getElem?_cons_zero, List.getElem?_cons_succ, List.set_cons_zero, List.set_cons_succ, ex_some, ex_some1, ex_bl, ex_int, at3_0, at3_1, at3_2, at2_0, at2_1, lstOf_last, decide_eq_true_eq, we_get1, we_get2, we_callV, we_fnc, we_dictT, wg_putX, true_and]
        all_goals first | trivial | exact ⟨(by first | rfl | trivial), (by first | rfl | trivial)⟩
      rintro l S4 ⟨rfl, rfl⟩
      have ha0 : aCons (eOp dIxA (eVar 0) (eC (.int 0))) aNil [some dM, some dO, some dB, some (.ref f), some (.ref S.length), some (.ref (S.length + 1)), some (.ref (S.length + 2)), some (.int ((ii + 1 : Nat) : Int)), some (.int (q.1 : Int)), some (.int (q.2 : Int)), some (wD u), x11, x12, x13, x14] S4 = some ([.int (asks : Int)], S4) := by rw [← hM]; rfl
      refine ws_rng (fun c l S5 => ∃ ps ws y11 y12 y13 y14, l = [some dM, some dO, some dB, some (.ref f), some (.ref S.length), some (.ref (S.length + 1)), some (.ref (S.length + 2)), some (.int ((ii + 1 : Nat) : Int)), some (.int (q.1 : Int)), some (.int (q.2 : Int)), some (wD u), y11, y12, y13, y14] ∧ ps[ii]? = some q ∧ ws[ii]? = some u ∧ Wst asks rs rs2 (i, j) S S5 ps ws ii c) (fun d S1 => Gr S S1 ∧ ∃ r n, d = .tup [rowD r, .ref n] ∧ Wk asks rs rs2 (i, j) r) ha0 (by have := h.a4; omega) ⟨ps, ws, _, _, _, _, rfl, hq, hu, w⟩ ?_ ?_ (fun d l' S' q => .inr ⟨d, rfl, q⟩)
      · rintro c l S5 hc ⟨ps, ws, y11, y12, y13, y14, rfl, hq, hu, w⟩
        have hfew := w.few h h'
        have hul := w.ln ii u hu
        have hil := (List.getElem?_eq_some_iff.mp hq).1
        obtain ⟨cs, c1, c2⟩ := cell_e h hqi.1 hc
        obtain ⟨ds, c3, c4⟩ := cell_e h' hqi.2 hc
        simp only [wg_name, List.set_cons_zero, List.set_cons_succ]
        refine ws_cut (fun l S6 => l = [some dM, some dO, some dB, some (.ref f), some (.ref S.length), some (.ref (S.length + 1)), some (.ref (S.length + 2)), some (.int ((ii + 1 : Nat) : Int)), some (.int (q.1 : Int)), some (.int (q.2 : Int)), some (wD u), some (.int (c : Int)), some (cD (cell rs q.1 c)), y13, y14] ∧ S6 = S5) ?_ ?_
        · rw [← hM]
          simp only [wo_run, ws_seq, ws_if, wt_e, we_op, we_un, we_var, we_c, ws_asg, ws_ret, ws_drop, ws_next, ws_break, ws_cont, wg_name, wg_sub, wg_tup, wg_nil, wg_cons, wg_dput, we_call, we_methL, we_methS, wa_cons, wa_nil, wt_and, wt_or, wt_not, we_and, we_or, we_not, we_if, wo_I0, wo_I, wo_plusAI, wo_plusAT, we_slA, wp_none, wp_some, ex_int1, wo_slT, wo_intAB, wo_times, wo_ixT, wo_ixL, wo_ixAT, wo_ixAL, wo_ixAS, wo_lenT, wo_lenL, wo_lenAT, wo_lenAL, wo_lenAS, wo_abs, wo_intB, wo_tup, wo_lst, wo_tupleL, wo_eqI, wo_eqB, wo_eqSt, wo_neS, wo_neB, wo_neI, wo_is, wo_isnot, wo_str, wo_isI_bl, wo_isI_int, wo_isI_str, wo_isI_tup, wo_isI_non, isI_same, List.map_cons, List.map_nil, List.length_cons, List.length_nil, Nat.reduceAdd, Nat.reduceSub, List.replicate, List.cons_append, List.nil_append, List.getElem?_cons_zero, List.getElem?_cons_succ, List.set_cons_zero, List.set_cons_succ, ex_some, ex_some1, ex_bl, ex_int, at3_0, at3_1, at3_2, at2_0, at2_1, lstOf_last, decide_eq_true_eq, we_get1, we_get2, we_callV, we_fnc, we_dictT, wg_putX, mD, c1, c2, true_and]
          all_goals first | trivial | exact ⟨(by first | rfl | trivial), (by first | rfl | trivial)⟩
        rintro l S6 ⟨rfl, rfl⟩
        refine ws_cut (fun l S7 => l = [some dM, some dO, some dB, some (.ref f), some (.ref S.length), some (.ref (S.length + 1)), some (.ref (S.length + 2)), some (.int ((ii + 1 : Nat) : Int)), some (.int (q.1 : Int)), some (.int (q.2 : Int)), some (wD u), some (.int (c : Int)), some (cD (cell rs q.1 c)), some (cD (cell rs2 q.2 c)), y14] ∧ S7 = S6) ?_ ?_
        · rw [← hO]
          simp only [wo_run, ws_seq, ws_if, wt_e, we_op, we_un, we_var, we_c, ws_asg, ws_ret, ws_drop, ws_next, ws_break, ws_cont, wg_name, wg_sub, wg_tup, wg_nil, wg_cons, wg_dput, we_call, we_methL, we_methS, wa_cons, wa_nil, wt_and, wt_or, wt_not, we_and, we_or, we_not, we_if, wo_I0, wo_I, wo_plusAI, wo_plusAT, we_slA, wp_none, wp_some, ex_int1, wo_slT, wo_intAB, wo_times, wo_ixT, wo_ixL, wo_ixAT, wo_ixAL, wo_ixAS, wo_lenT, wo_lenL, wo_lenAT, wo_lenAL, wo_lenAS, wo_abs, wo_intB, wo_tup, wo_lst, wo_tupleL, wo_eqI, wo_eqB, wo_eqSt, wo_neS, wo_neB, wo_neI, wo_is, wo_isnot, wo_str, wo_isI_bl, wo_isI_int, wo_isI_str, wo_isI_tup, wo_isI_non, isI_same, List.map_cons, List.map_nil, List.length_cons, List.length_nil, Nat.reduceAdd, Nat.reduceSub, List.replicate, List.cons_append, List.nil_append, List.getElem?_cons_zero, List.getElem?_cons_succ, List.set_cons_zero, List.set_cons_succ, ex_some, ex_some1, ex_bl, ex_int, at3_0, at3_1, at3_2, at2_0, at2_1, lstOf_last, decide_eq_true_eq, we_get1, we_get2, we_callV, we_fnc, we_dictT, wg_putX, mD, c3, c4, true_and]
          all_goals first | trivial | exact ⟨(by first | rfl | trivial), (by first | rfl | trivial)⟩
        rintro l S7 ⟨rfl, rfl⟩
        have hfn : fncOf S7 (.ref f) = some ("say_unlike" : Str) := by unfold fncOf; dsimp only; rw [w.g.get hf]
        have hlk : List.lookup ("say_unlike" : Str) [(("say_unlike" : Str), m_say_unlike)] = some m_say_unlike := by simp [List.lookup]
        refine ws_cutO (fun l S8 => l = [some dM, some dO, some dB, some (.ref f), some (.ref S.length), some (.ref (S.length + 1)), some (.ref (S.length + 2)), some (.int ((ii + 1 : Nat) : Int)), some (.int (q.1 : Int)), some (.int (q.2 : Int)), some (wD u), some (.int (c : Int)), some (cD (cell rs q.1 c)), some (cD (cell rs2 q.2 c)), y14] ∧ S8 = S7 ∧ fl2 rs rs2 q c = false) (fun d S1 => Gr S S1 ∧ ∃ r n, d = .tup [rowD r, .ref n] ∧ Wk asks rs rs2 (i, j) r) ?_ ?_ (fun d l1 S1 o => .inr ⟨d, rfl, o⟩)
        · refine ws_if' (fun b S8 => b = fl2 rs rs2 q c ∧ S8 = S7) ?_ ?_ ?_
          · simp only [wo_run, ws_seq, ws_if, wt_e, we_op, we_un, we_var, we_c, ws_asg, ws_ret, ws_drop, ws_next, ws_break, ws_cont, wg_name, wg_sub, wg_tup, wg_nil, wg_cons, wg_dput, we_call, we_methL, we_methS, wa_cons, wa_nil, wt_and, wt_or, wt_not, we_and, we_or, we_not, we_if, wo_I0, wo_I, wo_plusAI, wo_plusAT, we_slA, wp_none, wp_some, ex_int1, wo_slT, wo_intAB, wo_times, wo_ixT, wo_ixL, wo_ixAT, wo_ixAL, wo_ixAS, wo_lenT, wo_lenL, wo_lenAT, wo_lenAL, wo_lenAS, wo_abs, wo_intB, wo_tup, wo_lst, wo_tupleL, wo_eqI, wo_eqB, wo_eqSt, wo_neS, wo_neB, wo_neI, wo_is, wo_isnot, wo_str, wo_isI_bl, wo_isI_int, wo_isI_str, wo_isI_tup, wo_isI_non, isI_same, List.map_cons, List.map_nil, List.length_cons, List.length_nil, Nat.reduceAdd, Nat.reduceSub, List.replicate, List.cons_append, List.nil_append, List.getElem?_cons_zero, List.getElem?_cons_succ, List.set_cons_zero, List.set_cons_succ, ex_some, ex_some1, ex_bl, ex_int, at3_0, at3_1, at3_2, at2_0, at2_1, lstOf_last, decide_eq_true_eq, we_get1, we_get2, we_callV, we_fnc, we_dictT, wg_putX, hfn, hlk]
            refine ⟨_, _, say_ok _ _ _, ?_⟩
            exact ⟨fl2 rs rs2 q c, (by first | rfl | trivial), (by first | rfl | trivial), (by first | rfl | trivial)⟩
          · rintro S8 ⟨hb, rfl⟩
            simp only [wo_run, ws_seq, ws_if, wt_e, we_op, we_un, we_var, we_c, ws_asg, ws_ret, ws_drop, ws_next, ws_break, ws_cont, wg_name, wg_sub, wg_tup, wg_nil, wg_cons, wg_dput, we_call, we_methL, we_methS, wa_cons, wa_nil, wt_and, wt_or, wt_not, we_and, we_or, we_not, we_if, wo_I0, wo_I, wo_plusAI, wo_plusAT, we_slA, wp_none, wp_some, ex_int1, wo_slT, wo_intAB, wo_times, wo_ixT, wo_ixL, wo_ixAT, wo_ixAL, wo_ixAS, wo_lenT, wo_lenL, wo_lenAT, wo_lenAL, wo_lenAS, wo_abs, wo_intB, wo_tup, wo_lst, wo_tupleL, wo_eqI, wo_eqB, wo_eqSt, wo_neS, wo_neB, wo_neI, wo_is, wo_isnot, wo_str, wo_isI_bl, wo_isI_int, wo_isI_str, wo_isI_tup, wo_isI_non, isI_same, List.map_cons, List.map_nil, List.length_cons, List.length_nil, Nat.reduceAdd, Nat.reduceSub, List.replicate, List.cons_append, List.nil_append, List.getElem?_cons_zero, List.getElem?_cons_succ, List.set_cons_zero, List.set_cons_succ, ex_some, ex_some1, ex_bl, ex_int, at3_0, at3_1, at3_2, at2_0, at2_1, lstOf_last, decide_eq_true_eq, we_get1, we_get2, we_callV, we_fnc, we_dictT, wg_putX, wD]
            refine ⟨by omega, by rw [List.length_map]; omega, by omega, .inr ⟨_, rfl, w.g, some (u ++ [c]), S.length, ?_, w.b.found hc hq hu hb.symm⟩⟩
            rw [wD_app]; rfl
          · rintro S8 ⟨hb, rfl⟩
            simp only [wo_run, ws_seq, ws_if, wt_e, we_op, we_un, we_var, we_c, ws_asg, ws_ret, ws_drop, ws_next, ws_break, ws_cont, wg_name, wg_sub, wg_tup, wg_nil, wg_cons, wg_dput, we_call, we_methL, we_methS, wa_cons, wa_nil, wt_and, wt_or, wt_not, we_and, we_or, we_not, we_if, wo_I0, wo_I, wo_plusAI, wo_plusAT, we_slA, wp_none, wp_some, ex_int1, wo_slT, wo_intAB, wo_times, wo_ixT, wo_ixL, wo_ixAT, wo_ixAL, wo_ixAS, wo_lenT, wo_lenL, wo_lenAT, wo_lenAL, wo_lenAS, wo_abs, wo_intB, wo_tup, wo_lst, wo_tupleL, wo_eqI, wo_eqB, wo_eqSt, wo_neS, wo_neB, wo_neI, wo_is, wo_isnot, wo_str, wo_isI_bl, wo_isI_int, wo_isI_str, wo_isI_tup, wo_isI_non, isI_same, List.map_cons, List.map_nil, List.length_cons, List.length_nil, Nat.reduceAdd, Nat.reduceSub, List.replicate, List.cons_append, List.nil_append, List.getElem?_cons_zero, List.getElem?_cons_succ, List.set_cons_zero, List.set_cons_succ, ex_some, ex_some1, ex_bl, ex_int, at3_0, at3_1, at3_2, at2_0, at2_1, lstOf_last, decide_eq_true_eq, we_get1, we_get2, we_callV, we_fnc, we_dictT, wg_putX]
            exact .inl ⟨(by first | rfl | trivial), (by first | rfl | trivial), (by first | rfl | trivial), hb.symm⟩
        rintro l S8 ⟨rfl, rfl, hfl⟩
        refine ws_cut (fun l S9 => l = [some dM, some dO, some dB, some (.ref f), some (.ref S.length), some (.ref (S.length + 1)), some (.ref (S.length + 2)), some (.int ((ii + 1 : Nat) : Int)), some (.int (q.1 : Int)), some (.int (q.2 : Int)), some (wD u), some (.int (c : Int)), some (cD (cell rs q.1 c)), some (cD (cell rs2 q.2 c)), some (.tup [oD (cell rs q.1 c).1, oD (cell rs2 q.2 c).1])] ∧ S9 = S8) ?_ ?_
        · have sz2 : 2 ≤ sizeLine := by omega
          simp only [wo_run, ws_seq, ws_if, wt_e, we_op, we_un, we_var, we_c, ws_asg, ws_ret, ws_drop, ws_next, ws_break, ws_cont, wg_name, wg_sub, wg_tup, wg_nil, wg_cons, wg_dput, we_call, we_methL, we_methS, wa_cons, wa_nil, wt_and, wt_or, wt_not, we_and, we_or, we_not, we_if, wo_I0, wo_I, wo_plusAI, wo_plusAT, we_slA, wp_none, wp_some, ex_int1, wo_slT, wo_intAB, wo_times, wo_ixT, wo_ixL, wo_ixAT, wo_ixAL, wo_ixAS, wo_lenT, wo_lenL, wo_lenAT, wo_lenAL, wo_lenAS, wo_abs, wo_intB, wo_tup, wo_lst, wo_tupleL, wo_eqI, wo_eqB, wo_eqSt, wo_neS, wo_neB, wo_neI, wo_is, wo_isnot, wo_str, wo_isI_bl, wo_isI_int, wo_isI_str, wo_isI_tup, wo_isI_non, isI_same, List.map_cons, List.map_nil, List.length_cons, List.length_nil, Nat.reduceAdd, Nat.reduceSub, List.replicate, List.cons_append, List.nil_append, List.getElem?_cons_zero, List.getElem?_cons_succ, List.set_cons_zero, List.set_cons_succ, ex_some, ex_some1, ex_bl, ex_int, at3_0, at3_1, at3_2, at2_0, at2_1, lstOf_last, decide_eq_true_eq, we_get1, we_get2, we_callV, we_fnc, we_dictT, wg_putX, cD, sz2, true_and]
          all_goals first | trivial | exact ⟨(by first | rfl | trivial), (by first | rfl | trivial)⟩
        rintro l S9 ⟨rfl, rfl⟩
        refine ws_if' (fun b S10 => S10 = S9 ∧ (b = true → ∃ q', nx2 rs rs2 q c = some q' ∧ q' ∉ ps) ∧ (b = false → ∀ q', nx2 rs rs2 q c = some q' → q' ∈ ps)) ?_ ?_ ?_
        · simp only [wt_e, we_op, we_un, we_var, we_c, wg_name, wg_sub, wg_tup, wg_nil, wg_cons, wg_dput, we_call, we_methL, we_methS, wa_cons, wa_nil, wt_and, wt_or, wt_not, we_and, we_or, we_not, we_if, wo_I0, wo_I, wo_plusAI, wo_plusAT, we_slA, wp_none, wp_some, ex_int1, wo_slT, wo_intAB, wo_times, wo_ixT, wo_ixL, wo_ixAT, wo_ixAL, wo_ixAS, wo_lenT, wo_lenL, wo_lenAT, wo_lenAL, wo_lenAS, wo_abs, wo_intB, wo_tup, wo_lst, wo_tupleL, wo_eqI, wo_eqB, wo_eqSt, wo_neS, wo_neB, wo_neI, wo_is, wo_isnot, wo_str, wo_isI_bl, wo_isI_int, wo_isI_str, wo_isI_tup, wo_isI_non, isI_same, List.map_cons, List.map_nil, List.length_cons, List.length_nil, Nat.reduceAdd, Nat.reduceSub, List.replicate, List.cons_append, List.nil_append, List.getElem?_cons_zero, List.getElem?_cons_succ, List.set_cons_zero, List.set_cons_succ, ex_some, ex_some1, ex_bl, ex_int, at3_0, at3_1, at3_2, at2_0, at2_1, lstOf_last, decide_eq_true_eq, we_get1, we_get2, we_callV, we_fnc, we_dictT, wg_putX, wo_inN]
          cases hbo : both (cell rs q.1 c).1 (cell rs2 q.2 c).1 with
          | none =>
            simp only [wt_e, we_op, we_un, we_var, we_c, wg_name, wg_sub, wg_tup, wg_nil, wg_cons, wg_dput, we_call, we_methL, we_methS, wa_cons, wa_nil, wt_and, wt_or, wt_not, we_and, we_or, we_not, we_if, wo_I0, wo_I, wo_plusAI, wo_plusAT, we_slA, wp_none, wp_some, ex_int1, wo_slT, wo_intAB, wo_times, wo_ixT, wo_ixL, wo_ixAT, wo_ixAL, wo_ixAS, wo_lenT, wo_lenL, wo_lenAT, wo_lenAL, wo_lenAS, wo_abs, wo_intB, wo_tup, wo_lst, wo_tupleL, wo_eqI, wo_eqB, wo_eqSt, wo_neS, wo_neB, wo_neI, wo_is, wo_isnot, wo_str, wo_isI_bl, wo_isI_int, wo_isI_str, wo_isI_tup, wo_isI_non, isI_same, List.map_cons, List.map_nil, List.length_cons, List.length_nil, Nat.reduceAdd, Nat.reduceSub, List.replicate, List.cons_append, List.nil_append, List.getElem?_cons_zero, List.getElem?_cons_succ, List.set_cons_zero, List.set_cons_succ, ex_some, ex_some1, ex_bl, ex_int, at3_0, at3_1, at3_2, at2_0, at2_1, lstOf_last, decide_eq_true_eq, we_get1, we_get2, we_callV, we_fnc, we_dictT, wg_putX, Option.isSome_none, Bool.false_eq_true, if_false, if_true]
            refine ⟨(by first | rfl | trivial), fun z => z.elim, fun _ q' hs => ?_⟩
            unfold nx2 at hs; rw [hbo] at hs; cases hs
          | some q' =>
            have hs : nx2 rs rs2 q c = some q' := hbo
            simp only [wt_e, we_op, we_un, we_var, we_c, wg_name, wg_sub, wg_tup, wg_nil, wg_cons, wg_dput, we_call, we_methL, we_methS, wa_cons, wa_nil, wt_and, wt_or, wt_not, we_and, we_or, we_not, we_if, wo_I0, wo_I, wo_plusAI, wo_plusAT, we_slA, wp_none, wp_some, ex_int1, wo_slT, wo_intAB, wo_times, wo_ixT, wo_ixL, wo_ixAT, wo_ixAL, wo_ixAS, wo_lenT, wo_lenL, wo_lenAT, wo_lenAL, wo_lenAS, wo_abs, wo_intB, wo_tup, wo_lst, wo_tupleL, wo_eqI, wo_eqB, wo_eqSt, wo_neS, wo_neB, wo_neI, wo_is, wo_isnot, wo_str, wo_isI_bl, wo_isI_int, wo_isI_str, wo_isI_tup, wo_isI_non, isI_same, List.map_cons, List.map_nil, List.length_cons, List.length_nil, Nat.reduceAdd, Nat.reduceSub, List.replicate, List.cons_append, List.nil_append, List.getElem?_cons_zero, List.getElem?_cons_succ, List.set_cons_zero, List.set_cons_succ, ex_some, ex_some1, ex_bl, ex_int, at3_0, at3_1, at3_2, at2_0, at2_1, lstOf_last, decide_eq_true_eq, we_get1, we_get2, we_callV, we_fnc, we_dictT, wg_putX, Option.isSome_some, if_true]
            rw [oD2_pD hbo]
            unfold pD
            rw [wo_inT w.s2 (intsD_pI q')]
            simp only [pI_mem, if_true]
            refine ⟨_, rfl, (by first | rfl | trivial), fun z => ⟨q', hs, by simpa using z⟩, fun z q2 h2 => ?_⟩
            rw [hs] at h2; cases h2
            simpa using z
        · rintro S10 ⟨rfl, hb, _⟩
          obtain ⟨q', hs, hn⟩ := hb rfl
          have hbo : both (cell rs q.1 c).1 (cell rs2 q.2 c).1 = some q' := hs
          rw [oD2_pD hbo]
          refine ws_cut (fun l S11 => l = [some dM, some dO, some dB, some (.ref f), some (.ref S.length), some (.ref (S.length + 1)), some (.ref (S.length + 2)), some (.int ((ii + 1 : Nat) : Int)), some (.int (q.1 : Int)), some (.int (q.2 : Int)), some (wD u), some (.int (c : Int)), some (cD (cell rs q.1 c)), some (cD (cell rs2 q.2 c)), some (pD q')] ∧ S11 = S10.set (S.length + 2) (.tset (ps.map pI ++ [pI q']))) ?_ ?_
          · rw [ws_drop, we_methT]
            simp only [wt_e, we_op, we_un, we_var, we_c, wg_name, wg_sub, wg_tup, wg_nil, wg_cons, wg_dput, we_call, we_methL, we_methS, wa_cons, wa_nil, wt_and, wt_or, wt_not, we_and, we_or, we_not, we_if, wo_I0, wo_I, wo_plusAI, wo_plusAT, we_slA, wp_none, wp_some, ex_int1, wo_slT, wo_intAB, wo_times, wo_ixT, wo_ixL, wo_ixAT, wo_ixAL, wo_ixAS, wo_lenT, wo_lenL, wo_lenAT, wo_lenAL, wo_lenAS, wo_abs, wo_intB, wo_tup, wo_lst, wo_tupleL, wo_eqI, wo_eqB, wo_eqSt, wo_neS, wo_neB, wo_neI, wo_is, wo_isnot, wo_str, wo_isI_bl, wo_isI_int, wo_isI_str, wo_isI_tup, wo_isI_non, isI_same, List.map_cons, List.map_nil, List.length_cons, List.length_nil, Nat.reduceAdd, Nat.reduceSub, List.replicate, List.cons_append, List.nil_append, List.getElem?_cons_zero, List.getElem?_cons_succ, List.set_cons_zero, List.set_cons_succ, ex_some, ex_some1, ex_bl, ex_int, at3_0, at3_1, at3_2, at2_0, at2_1, lstOf_last, decide_eq_true_eq, we_get1, we_get2, we_callV, we_fnc, we_dictT, wg_putX, isTs_ok w.s2, true_and]
            unfold pD
            rw [wo_addT w.s2 (intsD_pI q') (by rw [List.length_map]; omega) (fun z => hn (pI_mem.mp z))]
            all_goals first | trivial | exact ⟨(by first | rfl | trivial), (by first | rfl | trivial), (by first | rfl | trivial)⟩ | exact ⟨(by first | rfl | trivial), (by first | rfl | trivial)⟩
          rintro l S11 ⟨rfl, rfl⟩
          have g0 : (S10.set (S.length + 2) (.tset (ps.map pI ++ [pI q'])))[S.length]? = some (.lst (ps.map pD)) := get_set_ne w.s0 (by omega)
          refine ws_cut (fun l S11 => l = [some dM, some dO, some dB, some (.ref f), some (.ref S.length), some (.ref (S.length + 1)), some (.ref (S.length + 2)), some (.int ((ii + 1 : Nat) : Int)), some (.int (q.1 : Int)), some (.int (q.2 : Int)), some (wD u), some (.int (c : Int)), some (cD (cell rs q.1 c)), some (cD (cell rs2 q.2 c)), some (pD q')] ∧ S11 = (S10.set (S.length + 2) (.tset (ps.map pI ++ [pI q']))).set S.length (.lst (ps.map pD ++ [pD q']))) ?_ ?_
          · rw [ws_drop, we_methL]
            simp only [wt_e, we_op, we_un, we_var, we_c, wg_name, wg_sub, wg_tup, wg_nil, wg_cons, wg_dput, we_call, we_methL, we_methS, wa_cons, wa_nil, wt_and, wt_or, wt_not, we_and, we_or, we_not, we_if, wo_I0, wo_I, wo_plusAI, wo_plusAT, we_slA, wp_none, wp_some, ex_int1, wo_slT, wo_intAB, wo_times, wo_ixT, wo_ixL, wo_ixAT, wo_ixAL, wo_ixAS, wo_lenT, wo_lenL, wo_lenAT, wo_lenAL, wo_lenAS, wo_abs, wo_intB, wo_tup, wo_lst, wo_tupleL, wo_eqI, wo_eqB, wo_eqSt, wo_neS, wo_neB, wo_neI, wo_is, wo_isnot, wo_str, wo_isI_bl, wo_isI_int, wo_isI_str, wo_isI_tup, wo_isI_non, isI_same, List.map_cons, List.map_nil, List.length_cons, List.length_nil, Nat.reduceAdd, Nat.reduceSub, List.replicate, List.cons_append, List.nil_append, List.getElem?_cons_zero, List.getElem?_cons_succ, List.set_cons_zero, List.set_cons_succ, ex_some, ex_some1, ex_bl, ex_int, at3_0, at3_1, at3_2, at2_0, at2_1, lstOf_last, decide_eq_true_eq, we_get1, we_get2, we_callV, we_fnc, we_dictT, wg_putX, recvL_of g0, ex_ok, true_and]
            rw [wo_app g0 (by rw [List.length_map]; omega)]
            all_goals first | trivial | exact ⟨(by first | rfl | trivial), (by first | rfl | trivial), (by first | rfl | trivial)⟩ | exact ⟨(by first | rfl | trivial), (by first | rfl | trivial)⟩
          rintro l S11 ⟨rfl, rfl⟩
          have g1 : ((S10.set (S.length + 2) (.tset (ps.map pI ++ [pI q']))).set S.length (.lst (ps.map pD ++ [pD q'])))[S.length + 1]? = some (.lst (ws.map wD)) := get_set_ne (get_set_ne w.s1 (by omega)) (by omega)
          have hz1 : (ws.map wD).length < sizeLine := by rw [List.length_map, w.b.len]; omega
          rw [ws_drop, we_methL]
          simp only [wt_e, we_op, we_un, we_var, we_c, wg_name, wg_sub, wg_tup, wg_nil, wg_cons, wg_dput, we_call, we_methL, we_methS, wa_cons, wa_nil, wt_and, wt_or, wt_not, we_and, we_or, we_not, we_if, wo_I0, wo_I, wo_plusAI, wo_plusAT, we_slA, wp_none, wp_some, ex_int1, wo_slT, wo_intAB, wo_times, wo_ixT, wo_ixL, wo_ixAT, wo_ixAL, wo_ixAS, wo_lenT, wo_lenL, wo_lenAT, wo_lenAL, wo_lenAS, wo_abs, wo_intB, wo_tup, wo_lst, wo_tupleL, wo_eqI, wo_eqB, wo_eqSt, wo_neS, wo_neB, wo_neI, wo_is, wo_isnot, wo_str, wo_isI_bl, wo_isI_int, wo_isI_str, wo_isI_tup, wo_isI_non, isI_same, List.map_cons, List.map_nil, List.length_cons, List.length_nil, Nat.reduceAdd, Nat.reduceSub, List.replicate, List.cons_append, List.nil_append, List.getElem?_cons_zero, List.getElem?_cons_succ, List.set_cons_zero, List.set_cons_succ, ex_some, ex_some1, ex_bl, ex_int, at3_0, at3_1, at3_2, at2_0, at2_1, lstOf_last, decide_eq_true_eq, we_get1, we_get2, we_callV, we_fnc, we_dictT, wg_putX, recvL_of g1, ex_ok, true_and, wD]
          refine ⟨by omega, by rw [List.length_map]; omega, ?_⟩
          rw [wo_app g1 hz1, wD_app]
          exact .inl ⟨.inl (by first | rfl | trivial), ps ++ [q'], ws ++ [u ++ [c]], _, _, _, _, rfl, BF.get_left hq, BF.get_left hu, w.put h h' hc hq hu hfl hs hn⟩
        · rintro S10 ⟨rfl, _, hb⟩
          simp only [wo_run, ws_seq, ws_if, wt_e, we_op, we_un, we_var, we_c, ws_asg, ws_ret, ws_drop, ws_next, ws_break, ws_cont, wg_name, wg_sub, wg_tup, wg_nil, wg_cons, wg_dput, we_call, we_methL, we_methS, wa_cons, wa_nil, wt_and, wt_or, wt_not, we_and, we_or, we_not, we_if, wo_I0, wo_I, wo_plusAI, wo_plusAT, we_slA, wp_none, wp_some, ex_int1, wo_slT, wo_intAB, wo_times, wo_ixT, wo_ixL, wo_ixAT, wo_ixAL, wo_ixAS, wo_lenT, wo_lenL, wo_lenAT, wo_lenAL, wo_lenAS, wo_abs, wo_intB, wo_tup, wo_lst, wo_tupleL, wo_eqI, wo_eqB, wo_eqSt, wo_neS, wo_neB, wo_neI, wo_is, wo_isnot, wo_str, wo_isI_bl, wo_isI_int, wo_isI_str, wo_isI_tup, wo_isI_non, isI_same, List.map_cons, List.map_nil, List.length_cons, List.length_nil, Nat.reduceAdd, Nat.reduceSub, List.replicate, List.cons_append, List.nil_append, List.getElem?_cons_zero, List.getElem?_cons_succ, List.set_cons_zero, List.set_cons_succ, ex_some, ex_some1, ex_bl, ex_int, at3_0, at3_1, at3_2, at2_0, at2_1, lstOf_last, decide_eq_true_eq, we_get1, we_get2, we_callV, we_fnc, we_dictT, wg_putX]
          exact .inl ⟨.inl (by first | rfl | trivial), ps, ws, _, _, _, _, rfl, hq, hu, ⟨w.b.skip hc hq hu hfl (hb rfl), w.inn, w.ln, w.g, w.s0, w.s1, w.s2⟩⟩
      · rintro l' S' ⟨ps, ws, y11, y12, y13, y14, rfl, hq, hu, w⟩
        have hil := (List.getElem?_eq_some_iff.mp hq).1
        refine .inl ⟨.inl rfl, m - 1, by omega, ps, ws, _, _, _, _, _, _, _, ii + 1, rfl, by omega, by omega, ⟨w.b.next, w.inn, w.ln, w.g, w.s0, w.s1, w.s2⟩⟩
    · rename_i hge
      exact ⟨ps, ws, _, _, _, _, _, _, _, ii, rfl, by omega, w⟩
  · rintro l S1 ⟨ps, ws, x8, x9, x10, x11, x12, x13, x14, ii, rfl, rfl, w⟩
    simp only [wo_run, ws_seq, ws_if, wt_e, we_op, we_un, we_var, we_c, ws_asg, ws_ret, ws_drop, ws_next, ws_break, ws_cont, wg_name, wg_sub, wg_tup, wg_nil, wg_cons, wg_dput, we_call, we_methL, we_methS, wa_cons, wa_nil, wt_and, wt_or, wt_not, we_and, we_or, we_not, we_if, wo_I0, wo_I, wo_plusAI, wo_plusAT, we_slA, wp_none, wp_some, ex_int1, wo_slT, wo_intAB, wo_times, wo_ixT, wo_ixL, wo_ixAT, wo_ixAL, wo_ixAS, wo_lenT, wo_lenL, wo_lenAT, wo_lenAL, wo_lenAS, wo_abs, wo_intB, wo_tup, wo_lst, wo_tupleL, wo_eqI, wo_eqB, wo_eqSt, wo_neS, wo_neB, wo_neI, wo_is, wo_isnot, wo_str, wo_isI_bl, wo_isI_int, wo_isI_str, wo_isI_tup, wo_isI_non, isI_same, List.map_cons, List.map_nil, List.length_cons, List.length_nil, Nat.reduceAdd, Nat.reduceSub, List.replicate, List.cons_append, List.nil_append, List.getElem?_cons_zero, List.getElem?_cons_succ, List.set_cons_zero, List.set_cons_succ, ex_some, ex_some1, ex_bl, ex_int, at3_0, at3_1, at3_2, at2_0, at2_1, lstOf_last, decide_eq_true_eq, we_get1, we_get2, we_callV, we_fnc, we_dictT, wg_putX]
    exact ⟨by omega, w.g, none, _, rfl, w.b.none⟩
end M
set_option Elab.async false
set_option maxHeartbeats 400000
set_option maxRecDepth 100000
namespace M
open PySem L3 G
theorem parting_ok {asks : Nat} {rs : List (List Cl)} {i j : Nat} {S : Sto} (h : OkM asks rs) (hi : i < rs.length) (hj : j < rs.length) :
    Wo (m_parting [mD asks rs, .int (i : Int), .int (j : Int)] S) fun v S' => Gr S S' ∧ ∃ r, v = rowD r ∧ Wk asks rs rs (i, j) r := by
  have sz2 : 2 ≤ sizeLine := by decide
  unfold m_parting b_parting
  simp only [wo_run, List.map_cons, List.map_nil, List.length_cons, List.length_nil, Nat.reduceAdd, Nat.reduceSub, List.replicate, List.cons_append, List.nil_append]
  simp only [wo_run, ws_seq, ws_if, wt_e, we_op, we_un, we_var, we_c, ws_asg, ws_ret, ws_drop, ws_next, ws_break, ws_cont, wg_name, wg_sub, wg_tup, wg_nil, wg_cons, wg_dput, we_call, we_methL, we_methS, wa_cons, wa_nil, wt_and, wt_or, wt_not, we_and, we_or, we_not, we_if, wo_I0, wo_I, wo_plusAI, wo_plusAT, we_slA, wp_none, wp_some, ex_int1, wo_slT, wo_intAB, wo_times, wo_ixT, wo_ixL, wo_ixAT, wo_ixAL, wo_ixAS, wo_lenT, wo_lenL, wo_lenAT, wo_lenAL, wo_lenAS, wo_abs, wo_intB, wo_tup, wo_lst, wo_tupleL, wo_eqI, wo_eqB, wo_eqSt, wo_neS, wo_neB, wo_neI, wo_is, wo_isnot, wo_str, wo_isI_bl, wo_isI_int, wo_isI_str, wo_isI_tup, wo_isI_non, isI_same, List.map_cons, List.map_nil, List.length_cons, List.length_nil, Nat.reduceAdd, Nat.reduceSub, List.replicate, List.cons_append, List.nil_append, List.getElem?_cons_zero, List.getElem?_cons_succ, List.set_cons_zero, List.set_cons_succ, ex_some, ex_some1, ex_bl, ex_int, at3_0, at3_1, at3_2, at2_0, at2_1, lstOf_last, decide_eq_true_eq, we_get1, we_get2, we_callV, we_fnc, we_dictT, wg_putX, sz2, true_and]
  have key := walkboth_ok (S := S ++ [.fnc "say_unlike"]) (f := S.length) h h hi hj get_new
  unfold pD at key
  refine Wo.mono key ?_
  rintro v S' ⟨g, r, n, rfl, hw⟩
  simp only [wo_run, ws_seq, ws_if, wt_e, we_op, we_un, we_var, we_c, ws_asg, ws_ret, ws_drop, ws_next, ws_break, ws_cont, wg_name, wg_sub, wg_tup, wg_nil, wg_cons, wg_dput, we_call, we_methL, we_methS, wa_cons, wa_nil, wt_and, wt_or, wt_not, we_and, we_or, we_not, we_if, wo_I0, wo_I, wo_plusAI, wo_plusAT, we_slA, wp_none, wp_some, ex_int1, wo_slT, wo_intAB, wo_times, wo_ixT, wo_ixL, wo_ixAT, wo_ixAL, wo_ixAS, wo_lenT, wo_lenL, wo_lenAT, wo_lenAL, wo_lenAS, wo_abs, wo_intB, wo_tup, wo_lst, wo_tupleL, wo_eqI, wo_eqB, wo_eqSt, wo_neS, wo_neB, wo_neI, wo_is, wo_isnot, wo_str, wo_isI_bl, wo_isI_int, wo_isI_str, wo_isI_tup, wo_isI_non, isI_same, List.map_cons, List.map_nil, List.length_cons, List.length_nil, Nat.reduceAdd, Nat.reduceSub, List.replicate, List.cons_append, List.nil_append, List.getElem?_cons_zero, List.getElem?_cons_succ, List.set_cons_zero, List.set_cons_succ, ex_some, ex_some1, ex_bl, ex_int, at3_0, at3_1, at3_2, at2_0, at2_1, lstOf_last, decide_eq_true_eq, we_get1, we_get2, we_callV, we_fnc, we_dictT, wg_putX]
  exact ⟨Gr.trans ((Gr.refl S).push (.fnc "say_unlike")) g, r, rfl, hw⟩
def allP (N : Nat) : List BF.P := (List.range (N * N)).map fun k => (k / N, k % N)
theorem mem_allP {N : Nat} {p : BF.P} : p ∈ allP N ↔ p.1 < N ∧ p.2 < N := by
  unfold allP
  rw [List.mem_map]
  constructor
  · rintro ⟨k, hk, rfl⟩
    have hk := List.mem_range.mp hk
    have hN : 0 < N := by
      rcases Nat.eq_zero_or_pos N with e | e
      · subst e; omega
      · exact e
    exact ⟨Nat.div_lt_of_lt_mul hk, Nat.mod_lt _ hN⟩
  · rintro ⟨h1, h2⟩
    refine ⟨p.1 * N + p.2, List.mem_range.mpr ?_, ?_⟩
    · calc p.1 * N + p.2 < p.1 * N + N := by omega
        _ = (p.1 + 1) * N := by rw [Nat.add_mul, Nat.one_mul]
        _ ≤ N * N := Nat.mul_le_mul_right N h1
    · refine Prod.ext ?_ ?_
      · show (p.1 * N + p.2) / N = p.1
        rw [Nat.mul_comm, Nat.mul_add_div (by omega), Nat.div_eq_of_lt h2, Nat.add_zero]
      · show (p.1 * N + p.2) % N = p.2
        rw [Nat.mul_comm, Nat.mul_add_mod, Nat.mod_eq_of_lt h2]
abbrev Tb := List (List L2.Key × D)
def pK (p : BF.P) : List L2.Key := [Sum.inl (p.1 : Int), Sum.inl (p.2 : Int)]
theorem pK_inj {p q : BF.P} (h : pK p = pK q) : p = q := by
  unfold pK at h
  simp at h
  exact Prod.ext (by omega) (by omega)
theorem tKey_pD (p : BF.P) : tKey (pD p) = some (pK p) := rfl
theorem tvGet_put (kvs : Tb) (k j : List L2.Key) (v : D) : tvGet (tvPut kvs k v) j = if j = k then some v else tvGet kvs j := by
  unfold tvPut
  by_cases e : (kvs.any fun kv => decide (kv.1 = k)) = true
  · rw [if_pos e]
    by_cases hj : j = k
    · subst hj
      rw [if_pos rfl]
      obtain ⟨kv, h1, h2⟩ := List.any_eq_true.mp e
      clear e
      induction kvs with
      | nil => cases h1
      | cons x kvs ih =>
        obtain ⟨xk, xv⟩ := x
        by_cases hx : xk = j
        · subst hx; simp [tvGet]
        · rcases List.mem_cons.mp h1 with rfl | h1
          · exact absurd (of_decide_eq_true h2) hx
          · have := ih h1
            simp only [tvGet, List.map_cons, if_neg hx, List.find?_cons, decide_eq_false hx] at this ⊢
            exact this
    · rw [if_neg hj]
      clear e
      induction kvs with
      | nil => rfl
      | cons x kvs ih =>
        obtain ⟨xk, xv⟩ := x
        by_cases hx : xk = k
        · subst hx
          have hx' : ¬ xk = j := fun z => hj z.symm
          simp only [tvGet, List.map_cons, if_true, List.find?_cons, decide_eq_false hx'] at ih ⊢
          exact ih
        · by_cases hxj : xk = j
          · subst hxj
            simp [tvGet, hx]
          · simp only [tvGet, List.map_cons, if_neg hx, List.find?_cons, decide_eq_false hxj] at ih ⊢
            exact ih
  · rw [if_neg e]
    have none : tvGet kvs k = none := by
      unfold tvGet
      rw [Option.map_eq_none_iff, List.find?_eq_none]
      intro x hx hk
      exact e (List.any_eq_true.mpr ⟨x, hx, hk⟩)
    by_cases hj : j = k
    · subst hj
      rw [if_pos rfl]
      unfold tvGet at none ⊢
      rw [List.find?_append, Option.map_eq_none_iff.mp none]
      simp
    · rw [if_neg hj]
      unfold tvGet
      rw [List.find?_append]
      cases kvs.find? (fun kv => decide (kv.1 = j)) with
      | some x => rfl
      | none =>
        have hk : ¬ k = j := fun z => hj z.symm
        simp [hk]
structure Ks (N : Nat) (kvs : Tb) (ks : List BF.P) : Prop where
  e : kvs.map (·.1) = ks.map pK
  nd : ks.Nodup
  inn : ∀ p ∈ ks, p.1 < N ∧ p.2 < N
theorem Ks.any {N : Nat} {kvs : Tb} {ks : List BF.P} (h : Ks N kvs ks) (p : BF.P) : (kvs.any fun kv => decide (kv.1 = pK p)) = decide (p ∈ ks) := by
  rw [Bool.eq_iff_iff, List.any_eq_true, decide_eq_true_eq]
  constructor
  · rintro ⟨kv, h1, h2⟩
    have : kv.1 ∈ kvs.map (·.1) := List.mem_map.mpr ⟨kv, h1, rfl⟩
    rw [h.e] at this
    obtain ⟨q, hq, e⟩ := List.mem_map.mp this
    have : pK q = pK p := e.trans (of_decide_eq_true h2)
    rw [← pK_inj this]; exact hq
  · intro hp
    have : pK p ∈ kvs.map (·.1) := by rw [h.e]; exact List.mem_map.mpr ⟨p, hp, rfl⟩
    obtain ⟨kv, h1, h2⟩ := List.mem_map.mp this
    exact ⟨kv, h1, decide_eq_true h2⟩
theorem Ks.len {N : Nat} {kvs : Tb} {ks : List BF.P} (h : Ks N kvs ks) : kvs.length = ks.length := by
  have := congrArg List.length h.e
  simpa using this
theorem Ks.put {N : Nat} {kvs : Tb} {ks : List BF.P} (h : Ks N kvs ks) {p : BF.P} (hp : p.1 < N ∧ p.2 < N) (v : D) : ∃ ks', Ks N (tvPut kvs (pK p) v) ks' ∧ ks.length ≤ ks'.length ∧ (p ∉ ks → ks.length + 1 ≤ ks'.length) ∧ p ∈ ks' := by
  unfold tvPut
  rw [h.any p]
  by_cases c : p ∈ ks
  · rw [if_pos (decide_eq_true c)]
    refine ⟨ks, ⟨?_, h.nd, h.inn⟩, Nat.le_refl _, fun z => absurd c z, c⟩
    rw [← h.e, List.map_map]
    apply List.map_congr_left
    intro x hx
    show (if x.1 = pK p then (x.1, v) else x).1 = x.1
    split <;> rfl
  · rw [if_neg (by simpa using c)]
    refine ⟨ks ++ [p], ⟨?_, ?_, fun q hq => ?_⟩, by simp, fun _ => by simp, by simp⟩
    · rw [List.map_append, List.map_append, h.e]; rfl
    · rw [List.nodup_append]
      exact ⟨h.nd, by simp, fun x hx y hy => by have : y = p := by simpa using hy
                                                subst this; exact fun e => c (e ▸ hx)⟩
    · rcases List.mem_append.mp hq with hq | hq
      · exact h.inn q hq
      · have : q = p := by simpa using hq
        subst this; exact hp
theorem Ks.get {N : Nat} {kvs : Tb} {ks : List BF.P} (h : Ks N kvs ks) (p : BF.P) : (tvGet kvs (pK p)).isSome = decide (p ∈ ks) := by
  rw [← h.any p]
  unfold tvGet
  rw [Option.isSome_map]
  cases c : kvs.find? (fun kv => decide (kv.1 = pK p)) with
  | none =>
    rw [List.find?_eq_none] at c
    symm
    rw [Option.isSome_none, List.any_eq_false]
    exact c
  | some x =>
    symm
    rw [Option.isSome_some, List.any_eq_true]
    exact ⟨x, List.mem_of_find?_eq_some c, by simpa using List.find?_some c⟩
abbrev Di (asks : Nat) (rs : List (List Cl)) (p : BF.P) (n : Nat) : Prop := BF.Ds asks (nxt rs) (fl rs) p n
structure Fd (asks : Nat) (rs : List (List Cl)) (kvs : Tb) (n : Nat) : Prop where
  yes : ∀ p m, p.1 < rs.length ∧ p.2 < rs.length → m < n → Di asks rs p m → tvGet kvs (pK p) = some (.int (m : Int))
  no : ∀ p, p.1 < rs.length ∧ p.2 < rs.length → (∀ m, m < n → ¬ Di asks rs p m) → tvGet kvs (pK p) = none
theorem Fd.some {asks : Nat} {rs : List (List Cl)} {kvs : Tb} {n : Nat} (f : Fd asks rs kvs n) {p : BF.P} (hp : p.1 < rs.length ∧ p.2 < rs.length) : (tvGet kvs (pK p)).isSome = true ↔ ∃ m, m < n ∧ Di asks rs p m := by
  constructor
  · intro h
    refine Classical.byContradiction fun c => ?_
    rw [f.no p hp fun m hm d => c ⟨m, hm, d⟩] at h
    cases h
  · rintro ⟨m, hm, d⟩
    rw [f.yes p m hp hm d]; rfl
theorem Di.down {asks : Nat} {rs : List (List Cl)} {p : BF.P} {m : Nat} (d : Di asks rs p (m + 2)) : ∃ a q, a < asks ∧ nxt rs p a = some q ∧ Di asks rs q (m + 1) := by
  obtain ⟨a, q, h1, h2, h3⟩ := BF.Fn.succ.mp d.1
  refine ⟨a, q, h1, h2, h3, fun k hk ⟨u, hu, hul⟩ => ?_⟩
  exact d.2 (k + 1) (by omega) ⟨a :: u, BF.fails_cons h1 h2 hu, by simp [hul]⟩
theorem Di.stop {asks : Nat} {rs : List (List Cl)} (h : OkM asks rs) {n : Nat} (hn : 1 ≤ n) (no : ∀ p, p.1 < rs.length ∧ p.2 < rs.length → ¬ Di asks rs p n) : ∀ (k : Nat) p, p.1 < rs.length ∧ p.2 < rs.length → ¬ Di asks rs p (n + k)
  | 0, p, hp => no p hp
  | k + 1, p, hp => fun d => by
    have e : n + (k + 1) = (n + k - 1) + 2 := by omega
    rw [e] at d
    obtain ⟨a, q, h1, h2, h3⟩ := Di.down d
    rw [show n + k - 1 + 1 = n + k by omega] at h3
    exact Di.stop h hn no k q (nxt_in h hp h1 h2) h3
end M
set_option Elab.async false
set_option maxHeartbeats 1000000
set_option maxRecDepth 100000
namespace M
open PySem L3 G
structure Fst (rs : List (List Cl)) (S S1 : Sto) (n4 : Nat) (kvs : Tb) (hs : List BF.P) : Prop where
  g : Gr S S1
  s2 : S1[S.length]? = some (.lst ((allP rs.length).map pD))
  s3 : S1[S.length + 1]? = some (.tdct kvs)
  s4 : S1[n4]? = some (.lst (hs.map pD))
  h4 : S.length + 2 ≤ n4
theorem Fst.grow {rs : List (List Cl)} {S S1 S2 : Sto} {n4 : Nat} {kvs : Tb} {hs : List BF.P} (f : Fst rs S S1 n4 kvs hs) (h : Gr S1 S2) : Fst rs S S2 n4 kvs hs := ⟨f.g.trans h, h.get f.s2, h.get f.s3, h.get f.s4, f.h4⟩
theorem rng_map {n : Nat} (F : D → D) : (rngD 0 n).map F = (List.range n).map fun (a : Nat) => F (.int (a : Int)) := by
  unfold rngD
  rw [List.map_map]
  apply List.map_congr_left
  intro a _
  show F (.int (0 + (a : Int))) = _
  rw [Int.zero_add]
theorem rng_mem {n : Nat} {x : D} (h : x ∈ rngD 0 n) : ∃ a : Nat, a < n ∧ x = .int (a : Int) := by
  unfold rngD at h
  obtain ⟨a, ha, rfl⟩ := List.mem_map.mp h
  exact ⟨a, List.mem_range.mp ha, by rw [Int.zero_add]⟩
def flF (rs : List (List Cl)) (p : BF.P) : D → D
  | .int a => .bl (fl rs p a.toNat)
  | _ => .non
def qF (rs : List (List Cl)) (p : BF.P) : D → D
  | .int a => qD (nxt rs p a.toNat)
  | _ => .non
def f1 (asks : Nat) (rs : List (List Cl)) (p : BF.P) : Bool := (List.range asks).any fun a => fl rs p a
theorem f1_iff {asks : Nat} {rs : List (List Cl)} {p : BF.P} : f1 asks rs p = true ↔ Di asks rs p 1 := by
  unfold f1 Di
  rw [List.any_eq_true, BF.Ds.one]
  constructor
  · rintro ⟨a, h1, h2⟩; exact ⟨a, List.mem_range.mp h1, h2⟩
  · rintro ⟨a, h1, h2⟩; exact ⟨a, List.mem_range.mpr h1, h2⟩
theorem any_unl {asks : Nat} {rs : List (List Cl)} {p : BF.P} {S : Sto} {l : Lo} {QB : Bool → Sto → Prop} (h : OkM asks rs) (hp : p.1 < rs.length ∧ p.2 < rs.length)
    (h0 : l[0]? = some (some (mD asks rs))) (h5 : l[5]? = some (some (.int (p.1 : Int)))) (h6 : l[6]? = some (some (.int (p.2 : Int)))) (q : ∀ S2, Gr S S2 → QB (f1 asks rs p) S2) :
    Wt (tE (eCall fAny (aCons (eComp (iRng (rng1 (aCons (eOp dIxA (eVar 0) (eC (.int 0))) (aNil)))) [none, some 0, some 5, some 6] (gName3 0) (tTrue) (eCall m_law_unlike (aCons (eVar 1) (aCons (eVar 2) (aCons (eVar 3) (aCons (eVar 0) (aNil))))))) (aNil)))) l S QB := by
  have sz := sizeBig
  have ha4 := h.a4
  simp only [wt_e, we_call, wa_cons, wa_nil]
  have ha0 : aCons (eOp dIxA (eVar 0) (eC (.int 0))) aNil l S = some ([.int (asks : Int)], S) := by
    unfold aCons eOp eVar; rw [h0]; rfl
  refine we_compM (rngD 0 asks) (flF rs p) (fun T => Gr S T) (fun l => ∃ x0, l = [x0, some (mD asks rs), some (.int (p.1 : Int)), some (.int (p.2 : Int))]) (rng_im ha0 (by omega)) (Gr.refl S) ?_ (fun i T _ => rfl) (by rw [rngD_len]; omega) ?_ ?_
  · refine ⟨none, ?_⟩
    unfold srcL
    simp only [List.map_cons, List.map_nil, h0, h5, h6]
    rfl
  · rintro x l T hx ⟨x0, rfl⟩ hT
    obtain ⟨a, ha, rfl⟩ := rng_mem hx
    simp only [wg_name, List.set_cons_zero]
    refine ⟨hT, ⟨_, rfl⟩, ?_⟩
    simp only [wt_e, we_op, we_un, we_var, we_c, wg_name, wg_sub, wg_tup, wg_nil, wg_cons, wg_dput, we_call, we_methL, we_methS, wa_cons, wa_nil, wt_and, wt_or, wt_not, we_and, we_or, we_not, we_if, wo_I0, wo_I, wo_plusAI, wo_plusAT, we_slA, wp_none, wp_some, ex_int1, wo_slT, wo_intAB, wo_times, wo_ixT, wo_ixL, wo_ixAT, wo_ixAL, wo_ixAS, wo_lenT, wo_lenL, wo_lenAT, wo_lenAL, wo_lenAS, wo_abs, wo_intB, wo_tup, wo_lst, wo_tupleL, wo_eqI, wo_eqB, wo_eqSt, wo_neS, wo_neB, wo_neI, wo_is, wo_isnot, wo_str, wo_isI_bl, wo_isI_int, wo_isI_str, wo_isI_tup, wo_isI_non, isI_same, List.map_cons, List.map_nil, List.length_cons, List.length_nil, Nat.reduceAdd, Nat.reduceSub, List.replicate, List.cons_append, List.nil_append, List.getElem?_cons_zero, List.getElem?_cons_succ, List.set_cons_zero, List.set_cons_succ, ex_some, ex_some1, ex_bl, ex_int, at3_0, at3_1, at3_2, at2_0, at2_1, lstOf_last, decide_eq_true_eq, we_get1, we_get2, we_callV, we_fnc, we_dictT, wg_putX]
    refine ⟨_, _, lawunlike_ok h hp.1 hp.2 ha, ?_, hT⟩
    rfl
  · intro T hT
    rw [wo_anyL]
    refine ⟨_, lstOf_last, ?_, ?_⟩
    · rw [rng_map, List.all_map, List.all_eq_true]
      intro a _; rfl
    · refine ⟨f1 asks rs p, ?_, q _ (hT.push _)⟩
      rw [rng_map, List.any_map]
      rfl
theorem later_ok {asks : Nat} {rs : List (List Cl)} {p : BF.P} {S : Sto} {l : Lo} {Q : D → Sto → Prop} (h : OkM asks rs) (hp : p.1 < rs.length ∧ p.2 < rs.length)
    (h0 : l[0]? = some (some (mD asks rs))) (h5 : l[5]? = some (some (.int (p.1 : Int)))) (h6 : l[6]? = some (some (.int (p.2 : Int)))) (q : ∀ S2, Gr S S2 → Q (.ref S2.length) (S2 ++ [.lst ((List.range asks).map fun a => qD (nxt rs p a))])) :
    We (eComp (iRng (rng1 (aCons (eOp dIxA (eVar 0) (eC (.int 0))) (aNil)))) [none, some 0, some 5, some 6] (gName3 0) (tTrue) (eCall m_law_both (aCons (eVar 1) (aCons (eVar 2) (aCons (eVar 3) (aCons (eVar 0) (aNil))))))) l S Q := by
  have sz := sizeBig
  have ha4 := h.a4
  have ha0 : aCons (eOp dIxA (eVar 0) (eC (.int 0))) aNil l S = some ([.int (asks : Int)], S) := by
    unfold aCons eOp eVar; rw [h0]; rfl
  refine we_compM (rngD 0 asks) (qF rs p) (fun T => Gr S T) (fun l => ∃ x0, l = [x0, some (mD asks rs), some (.int (p.1 : Int)), some (.int (p.2 : Int))]) (rng_im ha0 (by omega)) (Gr.refl S) ?_ (fun i T _ => rfl) (by rw [rngD_len]; omega) ?_ ?_
  · refine ⟨none, ?_⟩
    unfold srcL
    simp only [List.map_cons, List.map_nil, h0, h5, h6]
    rfl
  · rintro x l T hx ⟨x0, rfl⟩ hT
    obtain ⟨a, ha, rfl⟩ := rng_mem hx
    simp only [wg_name, List.set_cons_zero]
    refine ⟨hT, ⟨_, rfl⟩, ?_⟩
    simp only [wt_e, we_op, we_un, we_var, we_c, wg_name, wg_sub, wg_tup, wg_nil, wg_cons, wg_dput, we_call, we_methL, we_methS, wa_cons, wa_nil, wt_and, wt_or, wt_not, we_and, we_or, we_not, we_if, wo_I0, wo_I, wo_plusAI, wo_plusAT, we_slA, wp_none, wp_some, ex_int1, wo_slT, wo_intAB, wo_times, wo_ixT, wo_ixL, wo_ixAT, wo_ixAL, wo_ixAS, wo_lenT, wo_lenL, wo_lenAT, wo_lenAL, wo_lenAS, wo_abs, wo_intB, wo_tup, wo_lst, wo_tupleL, wo_eqI, wo_eqB, wo_eqSt, wo_neS, wo_neB, wo_neI, wo_is, wo_isnot, wo_str, wo_isI_bl, wo_isI_int, wo_isI_str, wo_isI_tup, wo_isI_non, isI_same, List.map_cons, List.map_nil, List.length_cons, List.length_nil, Nat.reduceAdd, Nat.reduceSub, List.replicate, List.cons_append, List.nil_append, List.getElem?_cons_zero, List.getElem?_cons_succ, List.set_cons_zero, List.set_cons_succ, ex_some, ex_some1, ex_bl, ex_int, at3_0, at3_1, at3_2, at2_0, at2_1, lstOf_last, decide_eq_true_eq, we_get1, we_get2, we_callV, we_fnc, we_dictT, wg_putX]
    refine ⟨_, _, lawboth_ok h hp.1 hp.2 ha, ?_, hT⟩
    rfl
  · intro T hT
    rw [rng_map]
    exact q T hT
def metF (kvs : Tb) (x : D) : Option D := (tKey x).bind fun k => if (tvGet kvs k).isSome = true then some x else none
def rnd (asks : Nat) (rs : List (List Cl)) (kvs : Tb) (p : BF.P) : Bool := (tvGet kvs (pK p)).isNone && (List.range asks).any fun a => ((nxt rs p a).map fun q => (tvGet kvs (pK q)).isSome).getD false
theorem isNon_pD (p : BF.P) : isNon (pD p) = false := rfl
theorem met_ok {asks : Nat} {rs : List (List Cl)} {p : BF.P} {S : Sto} {l : Lo} {n3 n9 : Nat} {kvs : Tb} {Q : D → Sto → Prop} (ha4 : asks ≤ 4) (h3 : l[3]? = some (some (.ref n3))) (h9 : l[9]? = some (some (.ref n9))) (s3 : S[n3]? = some (.tdct kvs)) (s9 : S[n9]? = some (.lst ((List.range asks).map fun a => qD (nxt rs p a))))
    (q : ∀ S2, Gr S S2 → Q (.ref S2.length) (S2 ++ [.lst (((List.range asks).map fun a => qD (nxt rs p a)).filterMap (metF kvs))])) :
    We (eComp (iVal (eVar 9)) [none, some 3] (gName3 0) (tAnd3 (tE (eOp dIsNot (eVar 0) (eC .non))) (tE (eOp (dInX false) (eVar 0) (eVar 1)))) (eVar 0)) l S Q := by
  have sz := sizeBig
  have he : eVar 9 l S = some (.ref n9, S) := by unfold eVar; rw [h9]
  refine we_compF ((List.range asks).map fun a => qD (nxt rs p a)) (metF kvs) (fun T => Gr S T) (fun l => ∃ x0, l = [x0, some (.ref n3)]) (valL_im he (lstOf_of s9)) (Gr.refl S) ?_ (fun i T hT => itL_at (lstOf_of (hT.get s9))) (by simp; omega) ?_ (fun T hT => q T hT)
  · refine ⟨none, ?_⟩
    unfold srcL
    simp only [List.map_cons, List.map_nil, h3]
    rfl
  · rintro x l T hx ⟨x0, rfl⟩ hT
    obtain ⟨a, ha, rfl⟩ := List.mem_map.mp hx
    simp only [wg_name, List.set_cons_zero]
    refine ⟨⟨_, rfl⟩, ?_⟩
    cases hn : nxt rs p a with
    | none =>
      simp only [wt_e, we_op, we_un, we_var, we_c, wg_name, wg_sub, wg_tup, wg_nil, wg_cons, wg_dput, we_call, we_methL, we_methS, wa_cons, wa_nil, wt_and, wt_or, wt_not, we_and, we_or, we_not, we_if, wo_I0, wo_I, wo_plusAI, wo_plusAT, we_slA, wp_none, wp_some, ex_int1, wo_slT, wo_intAB, wo_times, wo_ixT, wo_ixL, wo_ixAT, wo_ixAL, wo_ixAS, wo_lenT, wo_lenL, wo_lenAT, wo_lenAL, wo_lenAS, wo_abs, wo_intB, wo_tup, wo_lst, wo_tupleL, wo_eqI, wo_eqB, wo_eqSt, wo_neS, wo_neB, wo_neI, wo_is, wo_isnot, wo_str, wo_isI_bl, wo_isI_int, wo_isI_str, wo_isI_tup, wo_isI_non, isI_same, List.map_cons, List.map_nil, List.length_cons, List.length_nil, Nat.reduceAdd, Nat.reduceSub, List.replicate, List.cons_append, List.nil_append, List.getElem?_cons_zero, List.getElem?_cons_succ, List.set_cons_zero, List.set_cons_succ, ex_some, ex_some1, ex_bl, ex_int, at3_0, at3_1, at3_2, at2_0, at2_1, lstOf_last, decide_eq_true_eq, we_get1, we_get2, we_callV, we_fnc, we_dictT, wg_putX, qD, isNon, Bool.not_true, Bool.false_eq_true, if_false]
      exact ⟨hT, fun _ => rfl, fun z => by cases z⟩
    | some r =>
      have hrd := dRdT (hT.get s3) (tKey_pD r)
      simp only [wt_e, we_op, we_un, we_var, we_c, wg_name, wg_sub, wg_tup, wg_nil, wg_cons, wg_dput, we_call, we_methL, we_methS, wa_cons, wa_nil, wt_and, wt_or, wt_not, we_and, we_or, we_not, we_if, wo_I0, wo_I, wo_plusAI, wo_plusAT, we_slA, wp_none, wp_some, ex_int1, wo_slT, wo_intAB, wo_times, wo_ixT, wo_ixL, wo_ixAT, wo_ixAL, wo_ixAS, wo_lenT, wo_lenL, wo_lenAT, wo_lenAL, wo_lenAS, wo_abs, wo_intB, wo_tup, wo_lst, wo_tupleL, wo_eqI, wo_eqB, wo_eqSt, wo_neS, wo_neB, wo_neI, wo_is, wo_isnot, wo_str, wo_isI_bl, wo_isI_int, wo_isI_str, wo_isI_tup, wo_isI_non, isI_same, List.map_cons, List.map_nil, List.length_cons, List.length_nil, Nat.reduceAdd, Nat.reduceSub, List.replicate, List.cons_append, List.nil_append, List.getElem?_cons_zero, List.getElem?_cons_succ, List.set_cons_zero, List.set_cons_succ, ex_some, ex_some1, ex_bl, ex_int, at3_0, at3_1, at3_2, at2_0, at2_1, lstOf_last, decide_eq_true_eq, we_get1, we_get2, we_callV, we_fnc, we_dictT, wg_putX, qD, isNon_pD, Bool.not_false, if_true, wo_inX, hrd, Bool.false_eq_true, if_false]
      have hmf : metF kvs (pD r) = if (tvGet kvs (pK r)).isSome = true then some (pD r) else none := by unfold metF; rw [tKey_pD]; rfl
      rw [hmf]
      refine ⟨hT, fun z => ?_, fun z => ?_⟩
      · rw [if_neg (by rw [z]; exact Bool.false_ne_true)]
      · rw [if_pos z]; exact ⟨(by first | rfl | trivial), hT⟩
theorem rnd_iff {asks : Nat} {rs : List (List Cl)} {kvs : Tb} {p : BF.P} {n : Nat} (h : OkM asks rs) (hp : p.1 < rs.length ∧ p.2 < rs.length) (hn : 1 ≤ n) (f : Fd asks rs kvs (n + 1)) : rnd asks rs kvs p = true ↔ Di asks rs p (n + 1) := by
  unfold rnd Di
  rw [BF.Ds.round hn, Bool.and_eq_true]
  have e1 : (tvGet kvs (pK p)).isNone = true ↔ ¬ ∃ m, m ≤ n ∧ BF.Ds asks (nxt rs) (fl rs) p m := by
    have := f.some hp
    cases c : tvGet kvs (pK p) with
    | none =>
      rw [c] at this
      refine ⟨fun _ ⟨m, hm, d⟩ => ?_, fun _ => rfl⟩
      have := this.mpr ⟨m, by omega, d⟩
      cases this
    | some v =>
      rw [c] at this
      obtain ⟨m, hm, d⟩ := this.mp rfl
      exact ⟨fun z => (by cases z), fun z => absurd ⟨m, by omega, d⟩ z⟩
  have e2 : ((List.range asks).any fun a => ((nxt rs p a).map fun q => (tvGet kvs (pK q)).isSome).getD false) = true ↔ ∃ a q m, a < asks ∧ nxt rs p a = some q ∧ m ≤ n ∧ BF.Ds asks (nxt rs) (fl rs) q m := by
    rw [List.any_eq_true]
    constructor
    · rintro ⟨a, ha, e⟩
      have ha := List.mem_range.mp ha
      cases c : nxt rs p a with
      | none => rw [c] at e; cases e
      | some q =>
        rw [c] at e
        obtain ⟨m, hm, d⟩ := (f.some (nxt_in h hp ha c)).mp e
        exact ⟨a, q, m, ha, c, by omega, d⟩
    · rintro ⟨a, q, m, ha, c, hm, d⟩
      refine ⟨a, List.mem_range.mpr ha, ?_⟩
      rw [c]
      exact (f.some (nxt_in h hp ha c)).mpr ⟨m, by omega, d⟩
  rw [e1, e2]
theorem met_nil {asks : Nat} {rs : List (List Cl)} {kvs : Tb} {p : BF.P} : (!(((List.range asks).map fun a => qD (nxt rs p a)).filterMap (metF kvs)).isEmpty) = (List.range asks).any fun a => ((nxt rs p a).map fun q => (tvGet kvs (pK q)).isSome).getD false := by
  induction List.range asks with
  | nil => rfl
  | cons a r ih =>
    rw [List.map_cons, List.any_cons]
    cases c : nxt rs p a with
    | none =>
      rw [List.filterMap_cons_none (by rfl), ih]; rfl
    | some q =>
      have hmf : metF kvs (pD q) = if (tvGet kvs (pK q)).isSome = true then some (pD q) else none := by unfold metF; rw [tKey_pD]; rfl
      by_cases hs : (tvGet kvs (pK q)).isSome = true
      · rw [List.filterMap_cons_some (b := pD q) (by show metF kvs (pD q) = _; rw [hmf, if_pos hs])]
        show true = ((tvGet kvs (pK q)).isSome || _)
        rw [hs]; rfl
      · rw [List.filterMap_cons_none (by show metF kvs (pD q) = _; rw [hmf, if_neg hs]), ih]
        show _ = ((tvGet kvs (pK q)).isSome || _)
        have : (tvGet kvs (pK q)).isSome = false := by simpa using hs
        rw [this]; rfl
end M
set_option Elab.async false
set_option maxHeartbeats 1000000
set_option maxRecDepth 100000
namespace M
open PySem L3 G
def alF (N : Int) : D → D
  | .int k => .tup [.int (k / N), .int (k % N)]
  | _ => .non
theorem alF_map (N : Nat) : (rngD 0 (N * N)).map (alF (N : Int)) = (allP N).map pD := by
  rw [rng_map]
  unfold allP
  rw [List.map_map]
  apply List.map_congr_left
  intro k _
  rfl
theorem filt_snoc {f : BF.P → Bool} {l : List BF.P} {i : Nat} {p : BF.P} (h : l[i]? = some p) : (l.take (i + 1)).filter f = (l.take i).filter f ++ if f p = true then [p] else [] := by
  rw [List.take_add_one, h, List.filter_append]
  congr 1
  show [p].filter f = _
  rw [List.filter_cons]
  split <;> rfl
def Hs (asks : Nat) (rs : List (List Cl)) (hs : List BF.P) (n : Nat) : Prop := ∀ p, p ∈ hs ↔ (p.1 < rs.length ∧ p.2 < rs.length) ∧ Di asks rs p n
structure FarOk (asks : Nat) (rs : List (List Cl)) (kvs : Tb) : Prop where
  yes : ∀ p m, p.1 < rs.length ∧ p.2 < rs.length → Di asks rs p m → tvGet kvs (pK p) = some (.int (m : Int)) ∧ m < 1000
  no : ∀ p, p.1 < rs.length ∧ p.2 < rs.length → (∀ m, ¬ Di asks rs p m) → tvGet kvs (pK p) = none
theorem far_ok {asks : Nat} {rs : List (List Cl)} {S : Sto} (h : OkM asks rs) :
    Wo (m_law_far [mD asks rs] S) fun v S' => Gr S S' ∧ ∃ n kvs, v = .ref n ∧ S'[n]? = some (.tdct kvs) ∧ FarOk asks rs kvs := by
  have sz := sizeBig
  have hr1 := h.r1
  have hr24 := h.r24
  have hNN : rs.length * rs.length ≤ 24 * 24 := Nat.mul_le_mul hr24 hr24
  unfold m_law_far b_law_far
  simp only [wo_run, List.map_cons, List.map_nil, List.length_cons, List.length_nil, Nat.reduceAdd, Nat.reduceSub, List.replicate, List.cons_append, List.nil_append]
  generalize hM : mD asks rs = dM
  refine ws_cut (fun l S1 => l = [some dM, some (.int (rs.length : Int)), none, none, none, none, none, none, none, none, none] ∧ S1 = S) ?_ ?_
  · rw [← hM]
    simp only [wo_run, ws_seq, ws_if, wt_e, we_op, we_un, we_var, we_c, ws_asg, ws_ret, ws_drop, ws_next, ws_break, ws_cont, wg_name, wg_sub, wg_tup, wg_nil, wg_cons, wg_dput, we_call, we_methL, we_methS, wa_cons, wa_nil, wt_and, wt_or, wt_not, we_and, we_or, we_not, we_if, wo_I0, wo_I, wo_plusAI, wo_plusAT, we_slA, wp_none, wp_some, ex_int1, wo_slT, wo_intAB, wo_times, wo_ixT, wo_ixL, wo_ixAT, wo_ixAL, wo_ixAS, wo_lenT, wo_lenL, wo_lenAT, wo_lenAL, wo_lenAS, wo_abs, wo_intB, wo_tup, wo_lst, wo_tupleL, wo_eqI, wo_eqB, wo_eqSt, wo_neS, wo_neB, wo_neI, wo_is, wo_isnot, wo_str, wo_isI_bl, wo_isI_int, wo_isI_str, wo_isI_tup, wo_isI_non, isI_same, List.map_cons, List.map_nil, List.length_cons, List.length_nil, Nat.reduceAdd, Nat.reduceSub, List.replicate, List.cons_append, List.nil_append, List.getElem?_cons_zero, List.getElem?_cons_succ, List.set_cons_zero, List.set_cons_succ, ex_some, ex_some1, ex_bl, ex_int, at3_0, at3_1, at3_2, at2_0, at2_1, lstOf_last, decide_eq_true_eq, we_get1, we_get2, we_callV, we_fnc, we_dictT, wg_putX, mD, List.length_map]
    all_goals first | trivial | exact ⟨(by first | rfl | trivial), (by first | rfl | trivial), (by first | rfl | trivial)⟩
  rintro l S1 ⟨rfl, rfl⟩
  refine ws_cut (fun l S2 => l = [some dM, some (.int (rs.length : Int)), some (.ref S1.length), none, none, none, none, none, none, none, none] ∧ S2 = S1 ++ [.lst ((allP rs.length).map pD)]) ?_ ?_
  · rw [ws_asg]
    have hsq : (rs.length : Int) * (rs.length : Int) = ((rs.length * rs.length : Nat) : Int) := by simp
    have ha0 : aCons (eOp dTimes (eVar 1) (eVar 1)) aNil [some dM, some (.int (rs.length : Int)), none, none, none, none, none, none, none, none, none] S1 = some ([.int ((rs.length * rs.length : Nat) : Int)], S1) := by
      have : Wa (aCons (eOp dTimes (eVar 1) (eVar 1)) aNil) [some dM, some (.int (rs.length : Int)), none, none, none, none, none, none, none, none, none] S1 fun xs S' => xs = [.int ((rs.length * rs.length : Nat) : Int)] ∧ S' = S1 := by
        have f1 : (-(2 ^ 64) < (rs.length : Int) ∧ (rs.length : Int) < 2 ^ 64) := by omega
        simp only [wt_e, we_op, we_un, we_var, we_c, wg_name, wg_sub, wg_tup, wg_nil, wg_cons, wg_dput, we_call, we_methL, we_methS, wa_cons, wa_nil, wt_and, wt_or, wt_not, we_and, we_or, we_not, we_if, wo_I0, wo_I, wo_plusAI, wo_plusAT, we_slA, wp_none, wp_some, ex_int1, wo_slT, wo_intAB, wo_times, wo_ixT, wo_ixL, wo_ixAT, wo_ixAL, wo_ixAS, wo_lenT, wo_lenL, wo_lenAT, wo_lenAL, wo_lenAS, wo_abs, wo_intB, wo_tup, wo_lst, wo_tupleL, wo_eqI, wo_eqB, wo_eqSt, wo_neS, wo_neB, wo_neI, wo_is, wo_isnot, wo_str, wo_isI_bl, wo_isI_int, wo_isI_str, wo_isI_tup, wo_isI_non, isI_same, List.map_cons, List.map_nil, List.length_cons, List.length_nil, Nat.reduceAdd, Nat.reduceSub, List.replicate, List.cons_append, List.nil_append, List.getElem?_cons_zero, List.getElem?_cons_succ, List.set_cons_zero, List.set_cons_succ, ex_some, ex_some1, ex_bl, ex_int, at3_0, at3_1, at3_2, at2_0, at2_1, lstOf_last, decide_eq_true_eq, we_get1, we_get2, we_callV, we_fnc, we_dictT, wg_putX, f1, true_or, true_and, hsq]
        all_goals first | trivial | exact ⟨(by first | rfl | trivial), (by first | rfl | trivial)⟩
      obtain ⟨xs, S', e, rfl, rfl⟩ := this
      exact e
    refine we_compM (rngD 0 (rs.length * rs.length)) (alF (rs.length : Int)) (fun T => T = S1) (fun l => ∃ x0, l = [x0, some (.int (rs.length : Int))]) (rng_im ha0 (by omega)) rfl ⟨none, rfl⟩ (fun i T _ => rfl) (by rw [rngD_len]; omega) ?_ ?_
    · rintro x l T hx ⟨x0, rfl⟩ hT
      obtain ⟨a, ha, rfl⟩ := rng_mem hx
      simp only [wg_name, List.set_cons_zero]
      refine ⟨hT, ⟨_, rfl⟩, ?_⟩
      have f1 : (0 : Int) < (rs.length : Int) ∧ (rs.length : Int) < 1073741824 := by omega
      have f2 : (0 : Int) < (rs.length : Int) := by omega
      have sz2 : 2 ≤ sizeLine := by omega
      simp only [wt_e, we_op, we_un, we_var, we_c, wg_name, wg_sub, wg_tup, wg_nil, wg_cons, wg_dput, we_call, we_methL, we_methS, wa_cons, wa_nil, wt_and, wt_or, wt_not, we_and, we_or, we_not, we_if, wo_I0, wo_I, wo_plusAI, wo_plusAT, we_slA, wp_none, wp_some, ex_int1, wo_slT, wo_intAB, wo_times, wo_ixT, wo_ixL, wo_ixAT, wo_ixAL, wo_ixAS, wo_lenT, wo_lenL, wo_lenAT, wo_lenAL, wo_lenAS, wo_abs, wo_intB, wo_tup, wo_lst, wo_tupleL, wo_eqI, wo_eqB, wo_eqSt, wo_neS, wo_neB, wo_neI, wo_is, wo_isnot, wo_str, wo_isI_bl, wo_isI_int, wo_isI_str, wo_isI_tup, wo_isI_non, isI_same, List.map_cons, List.map_nil, List.length_cons, List.length_nil, Nat.reduceAdd, Nat.reduceSub, List.replicate, List.cons_append, List.nil_append, List.getElem?_cons_zero, List.getElem?_cons_succ, List.set_cons_zero, List.set_cons_succ, ex_some, ex_some1, ex_bl, ex_int, at3_0, at3_1, at3_2, at2_0, at2_1, lstOf_last, decide_eq_true_eq, we_get1, we_get2, we_callV, we_fnc, we_dictT, wg_putX, f1, f2, sz2, true_and, and_self]
      first | exact ⟨(by first | rfl | trivial), hT⟩ | exact ⟨hT⟩
    · rintro T rfl
      rw [alF_map]
      simp only [wt_e, we_op, we_un, we_var, we_c, wg_name, wg_sub, wg_tup, wg_nil, wg_cons, wg_dput, we_call, we_methL, we_methS, wa_cons, wa_nil, wt_and, wt_or, wt_not, we_and, we_or, we_not, we_if, wo_I0, wo_I, wo_plusAI, wo_plusAT, we_slA, wp_none, wp_some, ex_int1, wo_slT, wo_intAB, wo_times, wo_ixT, wo_ixL, wo_ixAT, wo_ixAL, wo_ixAS, wo_lenT, wo_lenL, wo_lenAT, wo_lenAL, wo_lenAS, wo_abs, wo_intB, wo_tup, wo_lst, wo_tupleL, wo_eqI, wo_eqB, wo_eqSt, wo_neS, wo_neB, wo_neI, wo_is, wo_isnot, wo_str, wo_isI_bl, wo_isI_int, wo_isI_str, wo_isI_tup, wo_isI_non, isI_same, List.map_cons, List.map_nil, List.length_cons, List.length_nil, Nat.reduceAdd, Nat.reduceSub, List.replicate, List.cons_append, List.nil_append, List.getElem?_cons_zero, List.getElem?_cons_succ, List.set_cons_zero, List.set_cons_succ, ex_some, ex_some1, ex_bl, ex_int, at3_0, at3_1, at3_2, at2_0, at2_1, lstOf_last, decide_eq_true_eq, we_get1, we_get2, we_callV, we_fnc, we_dictT, wg_putX]
      all_goals first | trivial | exact ⟨(by first | rfl | trivial), (by first | rfl | trivial), (by first | rfl | trivial)⟩
  rintro l S2 ⟨rfl, rfl⟩
  refine ws_cut (fun l S2 => l = [some dM, some (.int (rs.length : Int)), some (.ref S1.length), some (.ref (S1.length + 1)), none, none, none, none, none, none, none] ∧ S2 = S1 ++ [.lst ((allP rs.length).map pD)] ++ [.tdct []]) ?_ ?_
  · simp only [wo_run, ws_seq, ws_if, wt_e, we_op, we_un, we_var, we_c, ws_asg, ws_ret, ws_drop, ws_next, ws_break, ws_cont, wg_name, wg_sub, wg_tup, wg_nil, wg_cons, wg_dput, we_call, we_methL, we_methS, wa_cons, wa_nil, wt_and, wt_or, wt_not, we_and, we_or, we_not, we_if, wo_I0, wo_I, wo_plusAI, wo_plusAT, we_slA, wp_none, wp_some, ex_int1, wo_slT, wo_intAB, wo_times, wo_ixT, wo_ixL, wo_ixAT, wo_ixAL, wo_ixAS, wo_lenT, wo_lenL, wo_lenAT, wo_lenAL, wo_lenAS, wo_abs, wo_intB, wo_tup, wo_lst, wo_tupleL, wo_eqI, wo_eqB, wo_eqSt, wo_neS, wo_neB, wo_neI, wo_is, wo_isnot, wo_str, wo_isI_bl, wo_isI_int, wo_isI_str, wo_isI_tup, wo_isI_non, isI_same, List.map_cons, List.map_nil, List.length_cons, List.length_nil, Nat.reduceAdd, Nat.reduceSub, List.replicate, List.cons_append, List.nil_append, List.getElem?_cons_zero, List.getElem?_cons_succ, List.set_cons_zero, List.set_cons_succ, ex_some, ex_some1, ex_bl, ex_int, at3_0, at3_1, at3_2, at2_0, at2_1, lstOf_last, decide_eq_true_eq, we_get1, we_get2, we_callV, we_fnc, we_dictT, wg_putX, List.length_append]
    all_goals first | trivial | exact ⟨(by first | rfl | trivial), (by first | rfl | trivial), (by first | rfl | trivial)⟩
  rintro l S2 ⟨rfl, rfl⟩
  refine ws_cut (fun l S2 => l = [some dM, some (.int (rs.length : Int)), some (.ref S1.length), some (.ref (S1.length + 1)), some (.ref (S1.length + 2)), none, none, none, none, none, none] ∧ S2 = S1 ++ [.lst ((allP rs.length).map pD)] ++ [.tdct []] ++ [.lst []]) ?_ ?_
  · simp only [wo_run, ws_seq, ws_if, wt_e, we_op, we_un, we_var, we_c, ws_asg, ws_ret, ws_drop, ws_next, ws_break, ws_cont, wg_name, wg_sub, wg_tup, wg_nil, wg_cons, wg_dput, we_call, we_methL, we_methS, wa_cons, wa_nil, wt_and, wt_or, wt_not, we_and, we_or, we_not, we_if, wo_I0, wo_I, wo_plusAI, wo_plusAT, we_slA, wp_none, wp_some, ex_int1, wo_slT, wo_intAB, wo_times, wo_ixT, wo_ixL, wo_ixAT, wo_ixAL, wo_ixAS, wo_lenT, wo_lenL, wo_lenAT, wo_lenAL, wo_lenAS, wo_abs, wo_intB, wo_tup, wo_lst, wo_tupleL, wo_eqI, wo_eqB, wo_eqSt, wo_neS, wo_neB, wo_neI, wo_is, wo_isnot, wo_str, wo_isI_bl, wo_isI_int, wo_isI_str, wo_isI_tup, wo_isI_non, isI_same, List.map_cons, List.map_nil, List.length_cons, List.length_nil, Nat.reduceAdd, Nat.reduceSub, List.replicate, List.cons_append, List.nil_append, List.getElem?_cons_zero, List.getElem?_cons_succ, List.set_cons_zero, List.set_cons_succ, ex_some, ex_some1, ex_bl, ex_int, at3_0, at3_1, at3_2, at2_0, at2_1, lstOf_last, decide_eq_true_eq, we_get1, we_get2, we_callV, we_fnc, we_dictT, wg_putX, List.length_append]
    exact ⟨by omega, (by first | rfl | trivial), (by first | rfl | trivial), (by first | rfl | trivial)⟩
  rintro l S2 ⟨rfl, rfl⟩
  have f0 : Fst rs S1 (S1 ++ [.lst ((allP rs.length).map pD)] ++ [.tdct []] ++ [.lst []]) (S1.length + 2) [] [] := by
    refine ⟨((Gr.refl S1).push _).push _ |>.push _, get_old (get_old get_new), ?_, ?_, Nat.le_refl _⟩
    · exact get_old (by have := @get_new (S1 ++ [Ob.lst ((allP rs.length).map pD)]) (.tdct []); rw [List.length_append] at this; exact this)
    · have := @get_new (S1 ++ [Ob.lst ((allP rs.length).map pD)] ++ [Ob.tdct []]) (.lst []); rw [List.length_append, List.length_append] at this; exact this
  generalize S1 ++ [.lst ((allP rs.length).map pD)] ++ [.tdct []] ++ [.lst []] = S2 at f0
  refine ws_cut (fun l S3 => ∃ x5 x6 hs, l = [some dM, some (.int (rs.length : Int)), some (.ref S1.length), some (.ref (S1.length + 1)), some (.ref (S1.length + 2)), x5, x6, none, none, none, none] ∧ Fst rs S1 S3 (S1.length + 2) [] hs ∧ Hs asks rs hs 1) ?_ ?_
  · refine ws_forLst ((allP rs.length).map pD) (fun i l S3 => ∃ x5 x6, l = [some dM, some (.int (rs.length : Int)), some (.ref S1.length), some (.ref (S1.length + 1)), some (.ref (S1.length + 2)), x5, x6, none, none, none, none] ∧ Fst rs S1 S3 (S1.length + 2) [] (((allP rs.length).take i).filter (f1 asks rs))) (fun _ _ => False) (n := S1.length) (S1 := S2) rfl ⟨none, none, rfl, by simpa using f0⟩ (fun i l S3 ⟨_, _, _, f⟩ => lstOf_of f.s2) ?_ ?_ (fun d l' S' z => z.elim)
    · rintro i x l S3 hx ⟨x5, x6, rfl, f⟩
      rw [List.getElem?_map] at hx
      cases hp : (allP rs.length)[i]? with
      | none => rw [hp] at hx; cases hx
      | some p =>
        rw [hp] at hx
        cases hx
        have hpi := mem_allP.mp (List.mem_of_getElem? hp)
        unfold pD
        simp only [wg_tup, wg_cons, wg_nil, wg_name, List.length_cons, List.length_nil, List.set_cons_zero, List.set_cons_succ, Nat.reduceAdd, true_and]
        refine ws_if' (fun b S4 => b = f1 asks rs p ∧ Gr S3 S4) (any_unl h hpi (by rw [← hM]; rfl) rfl rfl fun S4 g => ⟨rfl, g⟩) ?_ ?_
        · rintro S4 ⟨hb, g⟩
          have f' := f.grow g
          have hsz2 : 2 ≤ sizeLine := by omega
          have hln : ((((allP rs.length).take i).filter (f1 asks rs)).map pD).length < sizeLine := by
            rw [List.length_map]
            have := List.length_filter_le (f1 asks rs) ((allP rs.length).take i)
            have h2 : ((allP rs.length).take i).length ≤ (allP rs.length).length := by rw [List.length_take]; omega
            have h3 : (allP rs.length).length = rs.length * rs.length := by simp [allP]
            omega
          rw [ws_drop, we_methL]
          simp only [wt_e, we_op, we_un, we_var, we_c, wg_name, wg_sub, wg_tup, wg_nil, wg_cons, wg_dput, we_call, we_methL, we_methS, wa_cons, wa_nil, wt_and, wt_or, wt_not, we_and, we_or, we_not, we_if, wo_I0, wo_I, wo_plusAI, wo_plusAT, we_slA, wp_none, wp_some, ex_int1, wo_slT, wo_intAB, wo_times, wo_ixT, wo_ixL, wo_ixAT, wo_ixAL, wo_ixAS, wo_lenT, wo_lenL, wo_lenAT, wo_lenAL, wo_lenAS, wo_abs, wo_intB, wo_tup, wo_lst, wo_tupleL, wo_eqI, wo_eqB, wo_eqSt, wo_neS, wo_neB, wo_neI, wo_is, wo_isnot, wo_str, wo_isI_bl, wo_isI_int, wo_isI_str, wo_isI_tup, wo_isI_non, isI_same, List.map_cons, List.map_nil, List.length_cons, List.length_nil, Nat.reduceAdd, Nat.reduceSub, List.replicate, List.cons_append, List.nil_append, List.getElem?_cons_zero, List.getElem?_cons_succ, List.set_cons_zero, List.set_cons_succ, ex_some, ex_some1, ex_bl, ex_int, at3_0, at3_1, at3_2, at2_0, at2_1, lstOf_last, decide_eq_true_eq, we_get1, we_get2, we_callV, we_fnc, we_dictT, wg_putX, recvL_of f'.s4, ex_ok, hsz2, true_and]
          rw [wo_app f'.s4 hln]
          refine .inl ⟨.inl (by first | rfl | trivial), _, _, rfl, ?_⟩
          refine ⟨f'.g.set (by omega) _, get_set_ne f'.s2 (by omega), get_set_ne f'.s3 (by omega), ?_, f'.h4⟩
          rw [filt_snoc hp, if_pos hb.symm, List.map_append]
          exact get_set f'.s4
        · rintro S4 ⟨hb, g⟩
          simp only [wt_e, we_op, we_un, we_var, we_c, wg_name, wg_sub, wg_tup, wg_nil, wg_cons, wg_dput, we_call, we_methL, we_methS, wa_cons, wa_nil, wt_and, wt_or, wt_not, we_and, we_or, we_not, we_if, wo_I0, wo_I, wo_plusAI, wo_plusAT, we_slA, wp_none, wp_some, ex_int1, wo_slT, wo_intAB, wo_times, wo_ixT, wo_ixL, wo_ixAT, wo_ixAL, wo_ixAS, wo_lenT, wo_lenL, wo_lenAT, wo_lenAL, wo_lenAS, wo_abs, wo_intB, wo_tup, wo_lst, wo_tupleL, wo_eqI, wo_eqB, wo_eqSt, wo_neS, wo_neB, wo_neI, wo_is, wo_isnot, wo_str, wo_isI_bl, wo_isI_int, wo_isI_str, wo_isI_tup, wo_isI_non, isI_same, List.map_cons, List.map_nil, List.length_cons, List.length_nil, Nat.reduceAdd, Nat.reduceSub, List.replicate, List.cons_append, List.nil_append, List.getElem?_cons_zero, List.getElem?_cons_succ, List.set_cons_zero, List.set_cons_succ, ex_some, ex_some1, ex_bl, ex_int, at3_0, at3_1, at3_2, at2_0, at2_1, lstOf_last, decide_eq_true_eq, we_get1, we_get2, we_callV, we_fnc, we_dictT, wg_putX, ws_next]
          refine .inl ⟨.inl (by first | rfl | trivial), _, _, rfl, ?_⟩
          rw [filt_snoc hp, if_neg (by rw [← hb]; exact Bool.false_ne_true), List.append_nil]
          exact f.grow g
    · rintro l' S' ⟨x5, x6, rfl, f⟩
      rw [List.length_map, List.take_length] at f
      refine ⟨rfl, x5, x6, _, rfl, f, fun p => ?_⟩
      rw [List.mem_filter, mem_allP, f1_iff]
  rintro l S3 ⟨x5, x6, hs, rfl, f, hh⟩
  refine ws_cut (fun l S4 => l = [some dM, some (.int (rs.length : Int)), some (.ref S1.length), some (.ref (S1.length + 1)), some (.ref (S1.length + 2)), x5, x6, some (.int ((1 : Nat) : Int)), none, none, none] ∧ S4 = S3) ?_ ?_
  · simp only [wo_run, ws_seq, ws_if, wt_e, we_op, we_un, we_var, we_c, ws_asg, ws_ret, ws_drop, ws_next, ws_break, ws_cont, wg_name, wg_sub, wg_tup, wg_nil, wg_cons, wg_dput, we_call, we_methL, we_methS, wa_cons, wa_nil, wt_and, wt_or, wt_not, we_and, we_or, we_not, we_if, wo_I0, wo_I, wo_plusAI, wo_plusAT, we_slA, wp_none, wp_some, ex_int1, wo_slT, wo_intAB, wo_times, wo_ixT, wo_ixL, wo_ixAT, wo_ixAL, wo_ixAS, wo_lenT, wo_lenL, wo_lenAT, wo_lenAL, wo_lenAS, wo_abs, wo_intB, wo_tup, wo_lst, wo_tupleL, wo_eqI, wo_eqB, wo_eqSt, wo_neS, wo_neB, wo_neI, wo_is, wo_isnot, wo_str, wo_isI_bl, wo_isI_int, wo_isI_str, wo_isI_tup, wo_isI_non, isI_same, List.map_cons, List.map_nil, List.length_cons, List.length_nil, Nat.reduceAdd, Nat.reduceSub, List.replicate, List.cons_append, List.nil_append, List.getElem?_cons_zero, List.getElem?_cons_succ, List.set_cons_zero, List.set_cons_succ, ex_some, ex_some1, ex_bl, ex_int, at3_0, at3_1, at3_2, at2_0, at2_1, lstOf_last, decide_eq_true_eq, we_get1, we_get2, we_callV, we_fnc, we_dictT, wg_putX]
    all_goals first | trivial | exact ⟨(by first | rfl | trivial), (by first | rfl | trivial), (by first | rfl | trivial)⟩
  rintro l S4 ⟨rfl, rfl⟩
  have fd0 : Fd asks rs [] 1 := ⟨fun p m hp hm d => by
    have : m = 0 := by omega
    subst this; exact absurd d.1 BF.Fn.zero, fun p hp _ => rfl⟩
  have ks0 : Ks rs.length [] [] := ⟨rfl, by simp, fun p hp => by simp at hp⟩
  refine ws_cut (fun l S5 => ∃ kvs n n4 y5 y6 y8 y9 y10, l = [some dM, some (.int (rs.length : Int)), some (.ref S1.length), some (.ref (S1.length + 1)), some (.ref n4), y5, y6, some (.int ((n : Nat) : Int)), y8, y9, y10] ∧ S5[S1.length + 1]? = some (.tdct kvs) ∧ Gr S1 S5 ∧ 1 ≤ n ∧ n ≤ 600 ∧ Fd asks rs kvs n ∧ Hs asks rs [] n) ?_ ?_
  · refine ws_whl (fun m l S5 => ∃ kvs ks hs, ∃ n n4 : Nat, ∃ y5 y6 y8 y9 y10, l = [some dM, some (.int (rs.length : Int)), some (.ref S1.length), some (.ref (S1.length + 1)), some (.ref n4), y5, y6, some (.int (n : Int)), y8, y9, y10] ∧ Fst rs S1 S5 n4 kvs hs ∧ Ks rs.length kvs ks ∧ 1 ≤ n ∧ n ≤ ks.length + 1 ∧ Fd asks rs kvs n ∧ Hs asks rs hs n ∧ m + n = 700) (fun _ _ => False) (fun l S5 => ∃ kvs, ∃ n n4 : Nat, ∃ y5 y6 y8 y9 y10, l = [some dM, some (.int (rs.length : Int)), some (.ref S1.length), some (.ref (S1.length + 1)), some (.ref n4), y5, y6, some (.int (n : Int)), y8, y9, y10] ∧ S5[S1.length + 1]? = some (.tdct kvs) ∧ Gr S1 S5 ∧ 1 ≤ n ∧ n ≤ 600 ∧ Fd asks rs kvs n ∧ Hs asks rs [] n) 699 (by decide) ⟨[], [], hs, 1, S1.length + 2, x5, x6, none, none, none, rfl, f, ks0, Nat.le_refl _, by simp, fd0, hh, rfl⟩ ?_ (fun l' S' ⟨kvs, n, n4, y5, y6, y8, y9, y10, e⟩ => ⟨rfl, kvs, n, n4, y5, y6, y8, y9, y10, e⟩) (fun d l' S' z => z.elim)
    rintro m l S5 ⟨kvs, ks, hs, n, n4, y5, y6, y8, y9, y10, rfl, f, hk, hn1, hnk, fd, hh, hmn⟩
    have hks := BF.few2 ks hk.nd hk.inn
    have sz0 : 0 ≤ sizeLine := Nat.zero_le _
    simp only [wt_e, we_op, we_un, we_var, we_c, wg_name, wg_sub, wg_tup, wg_nil, wg_cons, wg_dput, we_call, we_methL, we_methS, wa_cons, wa_nil, wt_and, wt_or, wt_not, we_and, we_or, we_not, we_if, wo_I0, wo_I, wo_plusAI, wo_plusAT, we_slA, wp_none, wp_some, ex_int1, wo_slT, wo_intAB, wo_times, wo_ixT, wo_ixL, wo_ixAT, wo_ixAL, wo_ixAS, wo_lenT, wo_lenL, wo_lenAT, wo_lenAL, wo_lenAS, wo_abs, wo_intB, wo_tup, wo_lst, wo_tupleL, wo_eqI, wo_eqB, wo_eqSt, wo_neS, wo_neB, wo_neI, wo_is, wo_isnot, wo_str, wo_isI_bl, wo_isI_int, wo_isI_str, wo_isI_tup, wo_isI_non, isI_same, List.map_cons, List.map_nil, List.length_cons, List.length_nil, Nat.reduceAdd, Nat.reduceSub, List.replicate, List.cons_append, List.nil_append, List.getElem?_cons_zero, List.getElem?_cons_succ, List.set_cons_zero, List.set_cons_succ, ex_some, ex_some1, ex_bl, ex_int, at3_0, at3_1, at3_2, at2_0, at2_1, lstOf_last, decide_eq_true_eq, we_get1, we_get2, we_callV, we_fnc, we_dictT, wg_putX, sz0, true_and]
    rw [wo_neNil (get_old f.s4) get_new]
    refine ⟨_, rfl, ?_⟩
    have fg := f.grow ((Gr.refl S5).push (.lst []))
    generalize S5 ++ [.lst []] = S6 at fg
    cases hs with
    | nil =>
      rw [if_neg (by simp)]
      exact ⟨kvs, n, n4, y5, y6, y8, y9, y10, rfl, fg.s3, fg.g, hn1, by omega, fd, hh⟩
    | cons h0 ht =>
      rw [if_pos (by simp)]
      have hin : ∀ p ∈ h0 :: ht, (p.1 < rs.length ∧ p.2 < rs.length) ∧ Di asks rs p n := fun p hp => (hh p).mp hp
      have hnew : ∀ p ∈ h0 :: ht, tvGet kvs (pK p) = none := fun p hp => fd.no p (hin p hp).1 fun k hk d => by
        have := d.uniq (hin p hp).2; omega
      refine ws_cut (fun l S7 => ∃ kvs' ks' z8, l = [some dM, some (.int (rs.length : Int)), some (.ref S1.length), some (.ref (S1.length + 1)), some (.ref n4), y5, y6, some (.int (n : Int)), z8, y9, y10] ∧ Fst rs S1 S7 n4 kvs' (h0 :: ht) ∧ Ks rs.length kvs' ks' ∧ ks.length + 1 ≤ ks'.length ∧ Fd asks rs kvs' (n + 1)) ?_ ?_
      · refine ws_forLst ((h0 :: ht).map pD) (fun i l S7 => ∃ kvs' ks' z8, l = [some dM, some (.int (rs.length : Int)), some (.ref S1.length), some (.ref (S1.length + 1)), some (.ref n4), y5, y6, some (.int (n : Int)), z8, y9, y10] ∧ Fst rs S1 S7 n4 kvs' (h0 :: ht) ∧ Ks rs.length kvs' ks' ∧ ks.length ≤ ks'.length ∧ (1 ≤ i → ks.length + 1 ≤ ks'.length) ∧ (i = 0 → ks' = ks) ∧ ∀ p, tvGet kvs' (pK p) = if p ∈ (h0 :: ht).take i then some (.int (n : Int)) else tvGet kvs (pK p)) (fun _ _ => False) (n := n4) (S1 := S6) rfl ⟨kvs, ks, y8, rfl, fg, hk, Nat.le_refl _, fun z => by omega, fun _ => rfl, fun p => by simp⟩ (fun i l S7 ⟨_, _, _, _, f, _⟩ => lstOf_of f.s4) ?_ ?_ (fun d l' S' z => z.elim)
        · rintro i x l S7 hx ⟨kvs', ks', z8, rfl, f7, hk7, hle, hlt, hz, hget⟩
          rw [List.getElem?_map] at hx
          cases hp : (h0 :: ht)[i]? with
          | none => rw [hp] at hx; cases hx
          | some p =>
            rw [hp] at hx
            cases hx
            have hpm := List.mem_of_getElem? hp
            have hks7 := BF.few2 ks' hk7.nd hk7.inn
            obtain ⟨ks2, hk2, hl2, hn2, hm2⟩ := hk7.put (hin p hpm).1 (.int (n : Int))
            simp only [wo_run, ws_seq, ws_if, wt_e, we_op, we_un, we_var, we_c, ws_asg, ws_ret, ws_drop, ws_next, ws_break, ws_cont, wg_name, wg_sub, wg_tup, wg_nil, wg_cons, wg_dput, we_call, we_methL, we_methS, wa_cons, wa_nil, wt_and, wt_or, wt_not, we_and, we_or, we_not, we_if, wo_I0, wo_I, wo_plusAI, wo_plusAT, we_slA, wp_none, wp_some, ex_int1, wo_slT, wo_intAB, wo_times, wo_ixT, wo_ixL, wo_ixAT, wo_ixAL, wo_ixAS, wo_lenT, wo_lenL, wo_lenAT, wo_lenAL, wo_lenAS, wo_abs, wo_intB, wo_tup, wo_lst, wo_tupleL, wo_eqI, wo_eqB, wo_eqSt, wo_neS, wo_neB, wo_neI, wo_is, wo_isnot, wo_str, wo_isI_bl, wo_isI_int, wo_isI_str, wo_isI_tup, wo_isI_non, isI_same, List.map_cons, List.map_nil, List.length_cons, List.length_nil, Nat.reduceAdd, Nat.reduceSub, List.replicate, List.cons_append, List.nil_append, List.getElem?_cons_zero, List.getElem?_cons_succ, List.set_cons_zero, List.set_cons_succ, ex_some, ex_some1, ex_bl, ex_int, at3_0, at3_1, at3_2, at2_0, at2_1, lstOf_last, decide_eq_true_eq, we_get1, we_get2, we_callV, we_fnc, we_dictT, wg_putX]
            refine ⟨_, putT_ok f7.s3 (tKey_pD p) (by rw [hk7.len]; omega), .inl ⟨.inl (by first | rfl | trivial), _, ks2, _, rfl, ?_, hk2, by omega, fun _ => ?_, fun z => by omega, fun q => ?_⟩⟩
            · have := f7.h4
              exact ⟨f7.g.set (by omega) _, get_set_ne f7.s2 (by omega), get_set f7.s3, get_set_ne f7.s4 (by omega), f7.h4⟩
            · rcases Nat.eq_zero_or_pos i with e | e
              · have e2 := hz e
                subst e2
                have : p ∉ ks' := fun hm => by
                  have h1 := hk.get p
                  rw [hnew p hpm, decide_eq_true hm] at h1
                  cases h1
                exact hn2 this
              · have := hlt e
                omega
            · rw [tvGet_put, hget]
              have et : (h0 :: ht).take (i + 1) = (h0 :: ht).take i ++ [p] := by rw [List.take_add_one, hp]; rfl
              rw [et]
              by_cases c : q = p
              · subst c
                rw [if_pos rfl, if_pos (by simp)]
              · rw [if_neg (fun z => c (pK_inj z))]
                by_cases c2 : q ∈ (h0 :: ht).take i
                · rw [if_pos c2, if_pos (List.mem_append_left _ c2)]
                · rw [if_neg c2, if_neg (fun z => by
                    rcases List.mem_append.mp z with z | z
                    · exact c2 z
                    · exact c (by simpa using z))]
        · rintro l' S' ⟨kvs', ks', z8, rfl, f7, hk7, hle, hlt, hz, hget⟩
          rw [List.length_map] at hlt hget
          rw [List.take_length] at hget
          refine ⟨rfl, kvs', ks', z8, rfl, f7, hk7, hlt (by simp), ?_⟩
          refine ⟨fun p k hp hkn d => ?_, fun p hp hno => ?_⟩
          · rw [hget]
            by_cases c : p ∈ h0 :: ht
            · rw [if_pos c, d.uniq (hin p c).2]
            · rw [if_neg c]
              have : k ≠ n := fun e => by subst e; exact c ((hh p).mpr ⟨hp, d⟩)
              exact fd.yes p k hp (by omega) d
          · rw [hget, if_neg (fun c => hno n (by omega) (hin p c).2)]
            exact fd.no p hp fun k hk => hno k (by omega)
      rintro l S7 ⟨kvs', ks', z8, rfl, f7, hk7, hle7, fd7⟩
      have hks7 := BF.few2 ks' hk7.nd hk7.inn
      refine ws_cut (fun l S8 => l = [some dM, some (.int (rs.length : Int)), some (.ref S1.length), some (.ref (S1.length + 1)), some (.ref n4), y5, y6, some (.int ((n + 1 : Nat) : Int)), z8, y9, y10] ∧ S8 = S7) ?_ ?_
      · simp only [wo_run, ws_seq, ws_if, wt_e, we_op, we_un, we_var, we_c, ws_asg, ws_ret, ws_drop, ws_next, ws_break, ws_cont, wg_name, wg_sub, wg_tup, wg_nil, wg_cons, wg_dput, we_call, we_methL, we_methS, wa_cons, wa_nil, wt_and, wt_or, wt_not, we_and, we_or, we_not, we_if, wo_I0, wo_I, wo_plusAI, wo_plusAT, we_slA, wp_none, wp_some, ex_int1, wo_slT, wo_intAB, wo_times, wo_ixT, wo_ixL, wo_ixAT, wo_ixAL, wo_ixAS, wo_lenT, wo_lenL, wo_lenAT, wo_lenAL, wo_lenAS, wo_abs, wo_intB, wo_tup, wo_lst, wo_tupleL, wo_eqI, wo_eqB, wo_eqSt, wo_neS, wo_neB, wo_neI, wo_is, wo_isnot, wo_str, wo_isI_bl, wo_isI_int, wo_isI_str, wo_isI_tup, wo_isI_non, isI_same, List.map_cons, List.map_nil, List.length_cons, List.length_nil, Nat.reduceAdd, Nat.reduceSub, List.replicate, List.cons_append, List.nil_append, List.getElem?_cons_zero, List.getElem?_cons_succ, List.set_cons_zero, List.set_cons_succ, ex_some, ex_some1, ex_bl, ex_int, at3_0, at3_1, at3_2, at2_0, at2_1, lstOf_last, decide_eq_true_eq, we_get1, we_get2, we_callV, we_fnc, we_dictT, wg_putX]
        all_goals first | trivial | exact ⟨(by first | rfl | trivial), (by first | rfl | trivial), (by first | rfl | trivial)⟩
      rintro l S8 ⟨rfl, rfl⟩
      refine ws_cut (fun l S9 => l = [some dM, some (.int (rs.length : Int)), some (.ref S1.length), some (.ref (S1.length + 1)), some (.ref S8.length), y5, y6, some (.int ((n + 1 : Nat) : Int)), z8, y9, y10] ∧ S9 = S8 ++ [.lst []]) ?_ ?_
      · simp only [wo_run, ws_seq, ws_if, wt_e, we_op, we_un, we_var, we_c, ws_asg, ws_ret, ws_drop, ws_next, ws_break, ws_cont, wg_name, wg_sub, wg_tup, wg_nil, wg_cons, wg_dput, we_call, we_methL, we_methS, wa_cons, wa_nil, wt_and, wt_or, wt_not, we_and, we_or, we_not, we_if, wo_I0, wo_I, wo_plusAI, wo_plusAT, we_slA, wp_none, wp_some, ex_int1, wo_slT, wo_intAB, wo_times, wo_ixT, wo_ixL, wo_ixAT, wo_ixAL, wo_ixAS, wo_lenT, wo_lenL, wo_lenAT, wo_lenAL, wo_lenAS, wo_abs, wo_intB, wo_tup, wo_lst, wo_tupleL, wo_eqI, wo_eqB, wo_eqSt, wo_neS, wo_neB, wo_neI, wo_is, wo_isnot, wo_str, wo_isI_bl, wo_isI_int, wo_isI_str, wo_isI_tup, wo_isI_non, isI_same, List.map_cons, List.map_nil, List.length_cons, List.length_nil, Nat.reduceAdd, Nat.reduceSub, List.replicate, List.cons_append, List.nil_append, List.getElem?_cons_zero, List.getElem?_cons_succ, List.set_cons_zero, List.set_cons_succ, ex_some, ex_some1, ex_bl, ex_int, at3_0, at3_1, at3_2, at2_0, at2_1, lstOf_last, decide_eq_true_eq, we_get1, we_get2, we_callV, we_fnc, we_dictT, wg_putX, sz0, true_and]
        all_goals first | trivial | exact ⟨(by first | rfl | trivial), (by first | rfl | trivial), (by first | rfl | trivial)⟩
      rintro l S9 ⟨rfl, rfl⟩
      have hl8 : S1.length + 2 ≤ S8.length := by
        have := (List.getElem?_eq_some_iff.mp f7.s3).1
        omega
      have f9 : Fst rs S1 (S8 ++ [.lst []]) S8.length kvs' [] := by
        have g := f7.grow ((Gr.refl S8).push (.lst []))
        exact ⟨g.g, g.s2, g.s3, get_new, hl8⟩
      generalize hS9 : S8 ++ [.lst []] = S9 at f9
      generalize S8.length = n5 at f9 hl8
      refine ws_forLst ((allP rs.length).map pD) (fun i l S10 => ∃ w5 w6 w9 w10, l = [some dM, some (.int (rs.length : Int)), some (.ref S1.length), some (.ref (S1.length + 1)), some (.ref n5), w5, w6, some (.int ((n + 1 : Nat) : Int)), z8, w9, w10] ∧ Fst rs S1 S10 n5 kvs' (((allP rs.length).take i).filter (rnd asks rs kvs'))) (fun _ _ => False) (n := S1.length) (S1 := S9) rfl ⟨y5, y6, y9, y10, rfl, by simpa using f9⟩ (fun i l S10 ⟨_, _, _, _, _, f⟩ => lstOf_of f.s2) ?_ ?_ (fun d l' S' z => z.elim)
      · rintro i x l S10 hx ⟨w5, w6, w9, w10, rfl, f10⟩
        rw [List.getElem?_map] at hx
        cases hp : (allP rs.length)[i]? with
        | none => rw [hp] at hx; cases hx
        | some p =>
          rw [hp] at hx
          cases hx
          have hpi := mem_allP.mp (List.mem_of_getElem? hp)
          rw [show pD p = .tup [.int (p.1 : Int), .int (p.2 : Int)] from rfl]
          simp only [wg_tup, wg_cons, wg_nil, wg_name, List.length_cons, List.length_nil, List.set_cons_zero, List.set_cons_succ, Nat.reduceAdd, true_and]
          refine ws_cut (fun l S11 => ∃ n9, l = [some dM, some (.int (rs.length : Int)), some (.ref S1.length), some (.ref (S1.length + 1)), some (.ref n5), some (.int (p.1 : Int)), some (.int (p.2 : Int)), some (.int ((n + 1 : Nat) : Int)), z8, some (.ref n9), w10] ∧ Gr S10 S11 ∧ S11[n9]? = some (.lst ((List.range asks).map fun a => qD (nxt rs p a)))) ?_ ?_
          · rw [ws_asg]
            refine later_ok h hpi (by rw [← hM]; rfl) rfl rfl fun S11 g => ?_
            simp only [wg_name, List.set_cons_zero, List.set_cons_succ]
            first | exact ⟨(by first | rfl | trivial), _, rfl, g.push _, get_new⟩ | exact ⟨_, rfl, g.push _, get_new⟩
          rintro l S11 ⟨n9, rfl, g11, s9⟩
          have f11 := f10.grow g11
          refine ws_cut (fun l S12 => ∃ n10, l = [some dM, some (.int (rs.length : Int)), some (.ref S1.length), some (.ref (S1.length + 1)), some (.ref n5), some (.int (p.1 : Int)), some (.int (p.2 : Int)), some (.int ((n + 1 : Nat) : Int)), z8, some (.ref n9), some (.ref n10)] ∧ Gr S11 S12 ∧ S12[n10]? = some (.lst (((List.range asks).map fun a => qD (nxt rs p a)).filterMap (metF kvs')))) ?_ ?_
          · rw [ws_asg]
            refine met_ok h.a4 rfl rfl f11.s3 s9 fun S12 g => ?_
            simp only [wg_name, List.set_cons_zero, List.set_cons_succ]
            first | exact ⟨(by first | rfl | trivial), _, rfl, g.push _, get_new⟩ | exact ⟨_, rfl, g.push _, get_new⟩
          rintro l S12 ⟨n10, rfl, g12, s10⟩
          have f12 := f11.grow g12
          have hrd := dRdT f12.s3 (tKey_pD p)
          rw [show pD p = .tup [.int (p.1 : Int), .int (p.2 : Int)] from rfl] at hrd
          have sz2 : 2 ≤ sizeLine := by omega
          refine ws_if' (fun b S13 => b = rnd asks rs kvs' p ∧ Gr S12 S13) ?_ ?_ ?_
          · simp only [wt_e, we_op, we_un, we_var, we_c, wg_name, wg_sub, wg_tup, wg_nil, wg_cons, wg_dput, we_call, we_methL, we_methS, wa_cons, wa_nil, wt_and, wt_or, wt_not, we_and, we_or, we_not, we_if, wo_I0, wo_I, wo_plusAI, wo_plusAT, we_slA, wp_none, wp_some, ex_int1, wo_slT, wo_intAB, wo_times, wo_ixT, wo_ixL, wo_ixAT, wo_ixAL, wo_ixAS, wo_lenT, wo_lenL, wo_lenAT, wo_lenAL, wo_lenAS, wo_abs, wo_intB, wo_tup, wo_lst, wo_tupleL, wo_eqI, wo_eqB, wo_eqSt, wo_neS, wo_neB, wo_neI, wo_is, wo_isnot, wo_str, wo_isI_bl, wo_isI_int, wo_isI_str, wo_isI_tup, wo_isI_non, isI_same, List.map_cons, List.map_nil, List.length_cons, List.length_nil, Nat.reduceAdd, Nat.reduceSub, List.replicate, List.cons_append, List.nil_append, List.getElem?_cons_zero, List.getElem?_cons_succ, List.set_cons_zero, List.set_cons_succ, ex_some, ex_some1, ex_bl, ex_int, at3_0, at3_1, at3_2, at2_0, at2_1, lstOf_last, decide_eq_true_eq, we_get1, we_get2, we_callV, we_fnc, we_dictT, wg_putX, sz2, true_and, wo_inX, hrd, if_true]
            unfold rnd
            cases c : tvGet kvs' (pK p) with
            | some v =>
              simp only [Option.isSome_some, Bool.not_true, Bool.false_eq_true, if_false]
              first | exact ⟨(by first | rfl | trivial), Gr.refl _⟩ | exact ⟨Gr.refl _⟩
            | none =>
              simp only [wt_e, we_op, we_un, we_var, we_c, wg_name, wg_sub, wg_tup, wg_nil, wg_cons, wg_dput, we_call, we_methL, we_methS, wa_cons, wa_nil, wt_and, wt_or, wt_not, we_and, we_or, we_not, we_if, wo_I0, wo_I, wo_plusAI, wo_plusAT, we_slA, wp_none, wp_some, ex_int1, wo_slT, wo_intAB, wo_times, wo_ixT, wo_ixL, wo_ixAT, wo_ixAL, wo_ixAS, wo_lenT, wo_lenL, wo_lenAT, wo_lenAL, wo_lenAS, wo_abs, wo_intB, wo_tup, wo_lst, wo_tupleL, wo_eqI, wo_eqB, wo_eqSt, wo_neS, wo_neB, wo_neI, wo_is, wo_isnot, wo_str, wo_isI_bl, wo_isI_int, wo_isI_str, wo_isI_tup, wo_isI_non, isI_same, List.map_cons, List.map_nil, List.length_cons, List.length_nil, Nat.reduceAdd, Nat.reduceSub, List.replicate, List.cons_append, List.nil_append, List.getElem?_cons_zero, List.getElem?_cons_succ, List.set_cons_zero, List.set_cons_succ, ex_some, ex_some1, ex_bl, ex_int, at3_0, at3_1, at3_2, at2_0, at2_1, lstOf_last, decide_eq_true_eq, we_get1, we_get2, we_callV, we_fnc, we_dictT, wg_putX, Option.isSome_none, Bool.not_false, if_true, sz0, true_and]
              rw [wo_neNil (get_old s10) get_new]
              refine ⟨_, rfl, ?_, (Gr.refl _).push _⟩
              rw [met_nil]; rfl
          · rintro S13 ⟨hb, g13⟩
            have f13 := f12.grow g13
            have hln : ((((allP rs.length).take i).filter (rnd asks rs kvs')).map pD).length < sizeLine := by
              rw [List.length_map]
              have := List.length_filter_le (rnd asks rs kvs') ((allP rs.length).take i)
              have h2 : ((allP rs.length).take i).length ≤ (allP rs.length).length := by rw [List.length_take]; omega
              have h3 : (allP rs.length).length = rs.length * rs.length := by simp [allP]
              omega
            rw [ws_drop, we_methL]
            simp only [wt_e, we_op, we_un, we_var, we_c, wg_name, wg_sub, wg_tup, wg_nil, wg_cons, wg_dput, we_call, we_methL, we_methS, wa_cons, wa_nil, wt_and, wt_or, wt_not, we_and, we_or, we_not, we_if, wo_I0, wo_I, wo_plusAI, wo_plusAT, we_slA, wp_none, wp_some, ex_int1, wo_slT, wo_intAB, wo_times, wo_ixT, wo_ixL, wo_ixAT, wo_ixAL, wo_ixAS, wo_lenT, wo_lenL, wo_lenAT, wo_lenAL, wo_lenAS, wo_abs, wo_intB, wo_tup, wo_lst, wo_tupleL, wo_eqI, wo_eqB, wo_eqSt, wo_neS, wo_neB, wo_neI, wo_is, wo_isnot, wo_str, wo_isI_bl, wo_isI_int, wo_isI_str, wo_isI_tup, wo_isI_non, isI_same, List.map_cons, List.map_nil, List.length_cons, List.length_nil, Nat.reduceAdd, Nat.reduceSub, List.replicate, List.cons_append, List.nil_append, List.getElem?_cons_zero, List.getElem?_cons_succ, List.set_cons_zero, List.set_cons_succ, ex_some, ex_some1, ex_bl, ex_int, at3_0, at3_1, at3_2, at2_0, at2_1, lstOf_last, decide_eq_true_eq, we_get1, we_get2, we_callV, we_fnc, we_dictT, wg_putX, recvL_of f13.s4, ex_ok, sz2, true_and]
            rw [wo_app f13.s4 hln]
            refine .inl ⟨.inl (by first | rfl | trivial), _, _, _, _, rfl, ?_⟩
            refine ⟨f13.g.set (by omega) _, get_set_ne f13.s2 (by omega), get_set_ne f13.s3 (by omega), ?_, f13.h4⟩
            rw [filt_snoc hp, if_pos hb.symm, List.map_append]
            exact get_set f13.s4
          · rintro S13 ⟨hb, g13⟩
            simp only [wt_e, we_op, we_un, we_var, we_c, wg_name, wg_sub, wg_tup, wg_nil, wg_cons, wg_dput, we_call, we_methL, we_methS, wa_cons, wa_nil, wt_and, wt_or, wt_not, we_and, we_or, we_not, we_if, wo_I0, wo_I, wo_plusAI, wo_plusAT, we_slA, wp_none, wp_some, ex_int1, wo_slT, wo_intAB, wo_times, wo_ixT, wo_ixL, wo_ixAT, wo_ixAL, wo_ixAS, wo_lenT, wo_lenL, wo_lenAT, wo_lenAL, wo_lenAS, wo_abs, wo_intB, wo_tup, wo_lst, wo_tupleL, wo_eqI, wo_eqB, wo_eqSt, wo_neS, wo_neB, wo_neI, wo_is, wo_isnot, wo_str, wo_isI_bl, wo_isI_int, wo_isI_str, wo_isI_tup, wo_isI_non, isI_same, List.map_cons, List.map_nil, List.length_cons, List.length_nil, Nat.reduceAdd, Nat.reduceSub, List.replicate, List.cons_append, List.nil_append, List.getElem?_cons_zero, List.getElem?_cons_succ, List.set_cons_zero, List.set_cons_succ, ex_some, ex_some1, ex_bl, ex_int, at3_0, at3_1, at3_2, at2_0, at2_1, lstOf_last, decide_eq_true_eq, we_get1, we_get2, we_callV, we_fnc, we_dictT, wg_putX, ws_next]
            refine .inl ⟨.inl (by first | rfl | trivial), _, _, _, _, rfl, ?_⟩
            rw [filt_snoc hp, if_neg (by rw [← hb]; exact Bool.false_ne_true), List.append_nil]
            exact f12.grow g13
      · rintro l' S' ⟨w5, w6, w9, w10, rfl, f10⟩
        rw [List.length_map, List.take_length] at f10
        refine .inl ⟨.inl rfl, m - 1, by omega, kvs', ks', _, n + 1, n5, w5, w6, z8, w9, w10, rfl, f10, hk7, by omega, by omega, fd7, fun p => ?_, by omega⟩
        rw [List.mem_filter, mem_allP]
        constructor
        · rintro ⟨h1, h2⟩; exact ⟨h1, (rnd_iff h h1 hn1 fd7).mp h2⟩
        · rintro ⟨h1, h2⟩; exact ⟨h1, (rnd_iff h h1 hn1 fd7).mpr h2⟩
  · rintro l S5 ⟨kvs, n, n4, y5, y6, y8, y9, y10, rfl, h3, g, hn1, hn6, fd, hn0⟩
    simp only [wo_run, ws_seq, ws_if, wt_e, we_op, we_un, we_var, we_c, ws_asg, ws_ret, ws_drop, ws_next, ws_break, ws_cont, wg_name, wg_sub, wg_tup, wg_nil, wg_cons, wg_dput, we_call, we_methL, we_methS, wa_cons, wa_nil, wt_and, wt_or, wt_not, we_and, we_or, we_not, we_if, wo_I0, wo_I, wo_plusAI, wo_plusAT, we_slA, wp_none, wp_some, ex_int1, wo_slT, wo_intAB, wo_times, wo_ixT, wo_ixL, wo_ixAT, wo_ixAL, wo_ixAS, wo_lenT, wo_lenL, wo_lenAT, wo_lenAL, wo_lenAS, wo_abs, wo_intB, wo_tup, wo_lst, wo_tupleL, wo_eqI, wo_eqB, wo_eqSt, wo_neS, wo_neB, wo_neI, wo_is, wo_isnot, wo_str, wo_isI_bl, wo_isI_int, wo_isI_str, wo_isI_tup, wo_isI_non, isI_same, List.map_cons, List.map_nil, List.length_cons, List.length_nil, Nat.reduceAdd, Nat.reduceSub, List.replicate, List.cons_append, List.nil_append, List.getElem?_cons_zero, List.getElem?_cons_succ, List.set_cons_zero, List.set_cons_succ, ex_some, ex_some1, ex_bl, ex_int, at3_0, at3_1, at3_2, at2_0, at2_1, lstOf_last, decide_eq_true_eq, we_get1, we_get2, we_callV, we_fnc, we_dictT, wg_putX]
    have stop := Di.stop h hn1 (fun p hp d => by have := (hn0 p).mpr ⟨hp, d⟩; cases this)
    refine ⟨g, _, kvs, rfl, h3, ⟨fun p m hp d => ?_, fun p hp hno => fd.no p hp fun m hm => hno m⟩⟩
    rcases Nat.lt_or_ge m n with c | c
    · exact ⟨fd.yes p m hp c d, by omega⟩
    · have := stop (m - n) p hp
      rw [show n + (m - n) = m by omega] at this
      exact absurd d this
end M
set_option Elab.async false
set_option maxHeartbeats 1000000
set_option maxRecDepth 100000
namespace M
open PySem L3 G
theorem first_of {A : Nat} {f : Nat → Bool} (h : ∃ a, a < A ∧ f a = true) : ∃ a t, (List.range A).filter f = a :: t ∧ a < A ∧ f a = true ∧ ∀ b, b < a → f b = false := by
  have hs : ((List.range A).filter f).Pairwise (· < ·) := List.pairwise_lt_range.filter f
  obtain ⟨a0, h1, h2⟩ := h
  have hm : a0 ∈ (List.range A).filter f := List.mem_filter.mpr ⟨List.mem_range.mpr h1, h2⟩
  cases c : (List.range A).filter f with
  | nil => rw [c] at hm; cases hm
  | cons a t =>
    have ha : a ∈ (List.range A).filter f := by rw [c]; exact List.mem_cons_self
    obtain ⟨g1, g2⟩ := List.mem_filter.mp ha
    have g1 := List.mem_range.mp g1
    refine ⟨a, t, rfl, g1, g2, fun b hb => ?_⟩
    cases e : f b with
    | false => rfl
    | true =>
      have hb' : b ∈ (List.range A).filter f := List.mem_filter.mpr ⟨List.mem_range.mpr (by omega), e⟩
      rw [c] at hb' hs
      rcases List.mem_cons.mp hb' with rfl | hb'
      · omega
      · have := (List.pairwise_cons.mp hs).1 b hb'
        omega
theorem filtN_snoc {f : Nat → Bool} {n i : Nat} (h : i < n) : ((List.range n).take (i + 1)).filter f = ((List.range n).take i).filter f ++ if f i = true then [i] else [] := by
  have h0 : (List.range n)[i]? = some i := by rw [List.getElem?_range h]
  rw [List.take_add_one, h0, List.filter_append]
  congr 1
  show [i].filter f = _
  rw [List.filter_cons]
  split <;> rfl
def nD (a : Nat) : D := .int (a : Int)
def nearer (rs : List (List Cl)) (kvs : Tb) (q : BF.P) (n : Nat) (a : Nat) : Bool := match nxt rs q a with
  | some r => (match tvGet kvs (pK r) with
    | some (.int m) => decide (m = (n : Int) - 1)
    | _ => false)
  | none => false
theorem nearer_iff {asks : Nat} {rs : List (List Cl)} {kvs : Tb} {q : BF.P} {n a : Nat} (h : OkM asks rs) (F : FarOk asks rs kvs) (hq : q.1 < rs.length ∧ q.2 < rs.length) (ha : a < asks) (hn : 2 ≤ n) : nearer rs kvs q n a = true ↔ ∃ r, nxt rs q a = some r ∧ Di asks rs r (n - 1) := by
  unfold nearer
  cases c : nxt rs q a with
  | none => exact ⟨fun z => (by cases z), fun ⟨r, e, _⟩ => (by cases e)⟩
  | some r =>
    have hr := nxt_in h hq ha c
    dsimp only
    constructor
    · intro z
      by_cases e : ∃ m, Di asks rs r m
      · obtain ⟨m, d⟩ := e
        rw [(F.yes r m hr d).1] at z
        have z := of_decide_eq_true z
        have : m = n - 1 := by omega
        exact ⟨r, rfl, this ▸ d⟩
      · rw [F.no r hr fun m d => e ⟨m, d⟩] at z
        cases z
    · rintro ⟨r', e, d⟩
      cases e
      rw [(F.yes r _ hr d).1]
      exact decide_eq_true (by omega)
def unF (rs : List (List Cl)) (q : BF.P) : D → Option D
  | .int a => if fl rs q a.toNat = true then some (.int a) else none
  | _ => none
theorem unF_at {rs : List (List Cl)} {q : BF.P} (a : Nat) : unF rs q (.int (a : Int)) = if fl rs q a = true then some (.int (a : Int)) else none := rfl
theorem unF_map {rs : List (List Cl)} {q : BF.P} {n : Nat} : (rngD 0 n).filterMap (unF rs q) = ((List.range n).filter (fl rs q)).map nD := by
  unfold rngD
  rw [List.filterMap_map]
  induction List.range n with
  | nil => rfl
  | cons a r ih =>
    have e : (unF rs q ∘ fun (i : Nat) => D.int (0 + (i : Int))) a = if fl rs q a = true then some (nD a) else none := by
      show unF rs q (.int (0 + (a : Int))) = _
      rw [Int.zero_add]; rfl
    by_cases c : fl rs q a = true
    · rw [if_pos c] at e
      rw [List.filterMap_cons_some e, List.filter_cons_of_pos c, List.map_cons, ih]
    · rw [if_neg c] at e
      rw [List.filterMap_cons_none e, List.filter_cons_of_neg c, ih]
theorem first_ok {asks : Nat} {rs : List (List Cl)} {i j n : Nat} {kvs : Tb} {S : Sto} (h : OkM asks rs) (hi : i < rs.length) (hj : j < rs.length) (hs : S[n]? = some (.tdct kvs)) (F : FarOk asks rs kvs) :
    Wo (m_law_first [mD asks rs, .ref n, .int (i : Int), .int (j : Int)] S) fun v S' => Gr S S' ∧ ∃ r, v = rowD r ∧ Wk asks rs rs (i, j) r := by
  have sz := sizeBig
  have sz0 : 0 ≤ sizeLine := Nat.zero_le _
  have sz1 : 1 ≤ sizeLine := by omega
  have sz2 : 2 ≤ sizeLine := by omega
  have ha4 := h.a4
  unfold m_law_first b_law_first
  simp only [wo_run, List.map_cons, List.map_nil, List.length_cons, List.length_nil, Nat.reduceAdd, Nat.reduceSub, List.replicate, List.cons_append, List.nil_append]
  generalize hM : mD asks rs = dM
  have key : ∀ (p : BF.P) (T : Sto), Gr S T → dRd T (.ref n) (.tup [.int (p.1 : Int), .int (p.2 : Int)]) = some (tvGet kvs (pK p)) := fun p T g => dRdT (g.get hs) (tKey_pD p)
  have kij := key (i, j) S (Gr.refl S)
  dsimp only at kij
  refine ws_cutO (fun l S1 => l = [some dM, some (.ref n), some (.int (i : Int)), some (.int (j : Int)), none, none, none, none] ∧ S1 = S ∧ ∃ m, Di asks rs (i, j) m) (fun d S1 => Gr S S1 ∧ ∃ r, d = rowD r ∧ Wk asks rs rs (i, j) r) ?_ ?_ (fun d l1 S1 o => o)
  · refine ws_if' (fun b S1 => S1 = S ∧ b = (tvGet kvs (pK (i, j))).isNone) ?_ ?_ ?_
    · simp only [wt_e, we_op, we_un, we_var, we_c, wg_name, wg_sub, wg_tup, wg_nil, wg_cons, wg_dput, we_call, we_methL, we_methS, wa_cons, wa_nil, wt_and, wt_or, wt_not, we_and, we_or, we_not, we_if, wo_I0, wo_I, wo_plusAI, wo_plusAT, we_slA, wp_none, wp_some, ex_int1, wo_slT, wo_intAB, wo_times, wo_ixT, wo_ixL, wo_ixAT, wo_ixAL, wo_ixAS, wo_lenT, wo_lenL, wo_lenAT, wo_lenAL, wo_lenAS, wo_abs, wo_intB, wo_tup, wo_lst, wo_tupleL, wo_eqI, wo_eqB, wo_eqSt, wo_neS, wo_neB, wo_neI, wo_is, wo_isnot, wo_str, wo_isI_bl, wo_isI_int, wo_isI_str, wo_isI_tup, wo_isI_non, isI_same, List.map_cons, List.map_nil, List.length_cons, List.length_nil, Nat.reduceAdd, Nat.reduceSub, List.replicate, List.cons_append, List.nil_append, List.getElem?_cons_zero, List.getElem?_cons_succ, List.set_cons_zero, List.set_cons_succ, ex_some, ex_some1, ex_bl, ex_int, at3_0, at3_1, at3_2, at2_0, at2_1, lstOf_last, decide_eq_true_eq, we_get1, we_get2, we_callV, we_fnc, we_dictT, wg_putX, sz2, true_and, wo_inX, kij, if_true]
      cases tvGet kvs (pK (i, j)) <;> rfl
    · rintro S1 ⟨rfl, hb⟩
      simp only [wo_run, ws_seq, ws_if, wt_e, we_op, we_un, we_var, we_c, ws_asg, ws_ret, ws_drop, ws_next, ws_break, ws_cont, wg_name, wg_sub, wg_tup, wg_nil, wg_cons, wg_dput, we_call, we_methL, we_methS, wa_cons, wa_nil, wt_and, wt_or, wt_not, we_and, we_or, we_not, we_if, wo_I0, wo_I, wo_plusAI, wo_plusAT, we_slA, wp_none, wp_some, ex_int1, wo_slT, wo_intAB, wo_times, wo_ixT, wo_ixL, wo_ixAT, wo_ixAL, wo_ixAS, wo_lenT, wo_lenL, wo_lenAT, wo_lenAL, wo_lenAS, wo_abs, wo_intB, wo_tup, wo_lst, wo_tupleL, wo_eqI, wo_eqB, wo_eqSt, wo_neS, wo_neB, wo_neI, wo_is, wo_isnot, wo_str, wo_isI_bl, wo_isI_int, wo_isI_str, wo_isI_tup, wo_isI_non, isI_same, List.map_cons, List.map_nil, List.length_cons, List.length_nil, Nat.reduceAdd, Nat.reduceSub, List.replicate, List.cons_append, List.nil_append, List.getElem?_cons_zero, List.getElem?_cons_succ, List.set_cons_zero, List.set_cons_succ, ex_some, ex_some1, ex_bl, ex_int, at3_0, at3_1, at3_2, at2_0, at2_1, lstOf_last, decide_eq_true_eq, we_get1, we_get2, we_callV, we_fnc, we_dictT, wg_putX]
      refine .inr ⟨_, rfl, Gr.refl _, none, rfl, ?_⟩
      rintro w hw
      obtain ⟨m, _, d⟩ := BF.Ds.of ⟨w, hw, rfl⟩
      have := (F.yes (i, j) m ⟨hi, hj⟩ d).1
      rw [this] at hb
      cases hb
    · rintro S1 ⟨rfl, hb⟩
      simp only [wo_run, ws_seq, ws_if, wt_e, we_op, we_un, we_var, we_c, ws_asg, ws_ret, ws_drop, ws_next, ws_break, ws_cont, wg_name, wg_sub, wg_tup, wg_nil, wg_cons, wg_dput, we_call, we_methL, we_methS, wa_cons, wa_nil, wt_and, wt_or, wt_not, we_and, we_or, we_not, we_if, wo_I0, wo_I, wo_plusAI, wo_plusAT, we_slA, wp_none, wp_some, ex_int1, wo_slT, wo_intAB, wo_times, wo_ixT, wo_ixL, wo_ixAT, wo_ixAL, wo_ixAS, wo_lenT, wo_lenL, wo_lenAT, wo_lenAL, wo_lenAS, wo_abs, wo_intB, wo_tup, wo_lst, wo_tupleL, wo_eqI, wo_eqB, wo_eqSt, wo_neS, wo_neB, wo_neI, wo_is, wo_isnot, wo_str, wo_isI_bl, wo_isI_int, wo_isI_str, wo_isI_tup, wo_isI_non, isI_same, List.map_cons, List.map_nil, List.length_cons, List.length_nil, Nat.reduceAdd, Nat.reduceSub, List.replicate, List.cons_append, List.nil_append, List.getElem?_cons_zero, List.getElem?_cons_succ, List.set_cons_zero, List.set_cons_succ, ex_some, ex_some1, ex_bl, ex_int, at3_0, at3_1, at3_2, at2_0, at2_1, lstOf_last, decide_eq_true_eq, we_get1, we_get2, we_callV, we_fnc, we_dictT, wg_putX]
      refine .inl ⟨(by first | rfl | trivial), (by first | rfl | trivial), (by first | rfl | trivial), ?_⟩
      refine Classical.byContradiction fun c => ?_
      rw [F.no (i, j) ⟨hi, hj⟩ fun m d => c ⟨m, d⟩] at hb
      cases hb
  rintro l S1 ⟨rfl, rfl, n0, d0⟩
  refine ws_cut (fun l S2 => l = [some dM, some (.ref n), some (.int (i : Int)), some (.int (j : Int)), some (wD []), none, none, none] ∧ S2 = S1) ?_ ?_
  · simp only [wo_run, ws_seq, ws_if, wt_e, we_op, we_un, we_var, we_c, ws_asg, ws_ret, ws_drop, ws_next, ws_break, ws_cont, wg_name, wg_sub, wg_tup, wg_nil, wg_cons, wg_dput, we_call, we_methL, we_methS, wa_cons, wa_nil, wt_and, wt_or, wt_not, we_and, we_or, we_not, we_if, wo_I0, wo_I, wo_plusAI, wo_plusAT, we_slA, wp_none, wp_some, ex_int1, wo_slT, wo_intAB, wo_times, wo_ixT, wo_ixL, wo_ixAT, wo_ixAL, wo_ixAS, wo_lenT, wo_lenL, wo_lenAT, wo_lenAL, wo_lenAS, wo_abs, wo_intB, wo_tup, wo_lst, wo_tupleL, wo_eqI, wo_eqB, wo_eqSt, wo_neS, wo_neB, wo_neI, wo_is, wo_isnot, wo_str, wo_isI_bl, wo_isI_int, wo_isI_str, wo_isI_tup, wo_isI_non, isI_same, List.map_cons, List.map_nil, List.length_cons, List.length_nil, Nat.reduceAdd, Nat.reduceSub, List.replicate, List.cons_append, List.nil_append, List.getElem?_cons_zero, List.getElem?_cons_succ, List.set_cons_zero, List.set_cons_succ, ex_some, ex_some1, ex_bl, ex_int, at3_0, at3_1, at3_2, at2_0, at2_1, lstOf_last, decide_eq_true_eq, we_get1, we_get2, we_callV, we_fnc, we_dictT, wg_putX, sz0, true_and]
    all_goals first | trivial | exact ⟨(by first | rfl | trivial), (by first | rfl | trivial), (by first | rfl | trivial)⟩
  rintro l S2 ⟨rfl, rfl⟩
  have hn0 := (F.yes (i, j) n0 ⟨hi, hj⟩ d0).2
  refine ws_cut (fun l S3 => ∃ q u x5 x6 x7, l = [some dM, some (.ref n), some (.int ((q : BF.P).1 : Int)), some (.int (q.2 : Int)), some (wD u), x5, x6, x7] ∧ Gr S2 S3 ∧ (q.1 < rs.length ∧ q.2 < rs.length) ∧ Di asks rs q 1 ∧ u.length ≤ 1000 ∧ ∀ w, BF.Least asks (nxt rs) (fl rs) q w → BF.Least asks (nxt rs) (fl rs) (i, j) (u ++ w)) ?_ ?_
  · refine ws_whl (fun m l S3 => ∃ q u x5 x6 x7, l = [some dM, some (.ref n), some (.int ((q : BF.P).1 : Int)), some (.int (q.2 : Int)), some (wD u), x5, x6, x7] ∧ Gr S2 S3 ∧ (q.1 < rs.length ∧ q.2 < rs.length) ∧ Di asks rs q m ∧ u.length + m ≤ 1000 ∧ ∀ w, BF.Least asks (nxt rs) (fl rs) q w → BF.Least asks (nxt rs) (fl rs) (i, j) (u ++ w)) (fun _ _ => False) (fun l S3 => ∃ q u x5 x6 x7, l = [some dM, some (.ref n), some (.int ((q : BF.P).1 : Int)), some (.int (q.2 : Int)), some (wD u), x5, x6, x7] ∧ Gr S2 S3 ∧ (q.1 < rs.length ∧ q.2 < rs.length) ∧ Di asks rs q 1 ∧ u.length ≤ 1000 ∧ ∀ w, BF.Least asks (nxt rs) (fl rs) q w → BF.Least asks (nxt rs) (fl rs) (i, j) (u ++ w)) n0 (by omega) ⟨(i, j), [], none, none, none, rfl, Gr.refl _, ⟨hi, hj⟩, d0, by simp; omega, fun w hw => hw⟩ ?_ (fun l' S' ⟨q, u, x5, x6, x7, e⟩ => ⟨rfl, q, u, x5, x6, x7, e⟩) (fun d l' S' z => z.elim)
    rintro m l S3 ⟨q, u, x5, x6, x7, rfl, g, hq, dq, hum, hl⟩
    have hm0 : m ≠ 0 := fun e => by subst e; exact BF.Fn.zero dq.1
    have kq := key q S3 g
    rw [(F.yes q m hq dq).1] at kq
    simp only [wt_e, we_op, we_un, we_var, we_c, wg_name, wg_sub, wg_tup, wg_nil, wg_cons, wg_dput, we_call, we_methL, we_methS, wa_cons, wa_nil, wt_and, wt_or, wt_not, we_and, we_or, we_not, we_if, wo_I0, wo_I, wo_plusAI, wo_plusAT, we_slA, wp_none, wp_some, ex_int1, wo_slT, wo_intAB, wo_times, wo_ixT, wo_ixL, wo_ixAT, wo_ixAL, wo_ixAS, wo_lenT, wo_lenL, wo_lenAT, wo_lenAL, wo_lenAS, wo_abs, wo_intB, wo_tup, wo_lst, wo_tupleL, wo_eqI, wo_eqB, wo_eqSt, wo_neS, wo_neB, wo_neI, wo_is, wo_isnot, wo_str, wo_isI_bl, wo_isI_int, wo_isI_str, wo_isI_tup, wo_isI_non, isI_same, List.map_cons, List.map_nil, List.length_cons, List.length_nil, Nat.reduceAdd, Nat.reduceSub, List.replicate, List.cons_append, List.nil_append, List.getElem?_cons_zero, List.getElem?_cons_succ, List.set_cons_zero, List.set_cons_succ, ex_some, ex_some1, ex_bl, ex_int, at3_0, at3_1, at3_2, at2_0, at2_1, lstOf_last, decide_eq_true_eq, we_get1, we_get2, we_callV, we_fnc, we_dictT, wg_putX, sz2, true_and, wo_getX, kq, Option.some.injEq, exists_eq_left']
    by_cases hm1 : 1 < m
    · rw [if_pos (by omega)]
      have hex : ∃ a, a < asks ∧ nearer rs kvs q m a = true := by
        obtain ⟨k, rfl⟩ : ∃ k, m = k + 2 := ⟨m - 2, by omega⟩
        obtain ⟨a, r, g1, g2, g3⟩ := Di.down dq
        exact ⟨a, g1, (nearer_iff h F hq g1 (by omega)).mpr ⟨r, g2, g3⟩⟩
      obtain ⟨a0, t, e0, ha0, hf0, hb0⟩ := first_of hex
      obtain ⟨r, hr, dr⟩ := (nearer_iff h F hq ha0 (by omega)).mp hf0
      have hri := nxt_in h hq ha0 hr
      refine ws_cut (fun l S4 => l = [some dM, some (.ref n), some (.int (q.1 : Int)), some (.int (q.2 : Int)), some (wD u), some (.ref S3.length), x6, x7] ∧ S4 = S3 ++ [.lst []]) ?_ ?_
      · simp only [wo_run, ws_seq, ws_if, wt_e, we_op, we_un, we_var, we_c, ws_asg, ws_ret, ws_drop, ws_next, ws_break, ws_cont, wg_name, wg_sub, wg_tup, wg_nil, wg_cons, wg_dput, we_call, we_methL, we_methS, wa_cons, wa_nil, wt_and, wt_or, wt_not, we_and, we_or, we_not, we_if, wo_I0, wo_I, wo_plusAI, wo_plusAT, we_slA, wp_none, wp_some, ex_int1, wo_slT, wo_intAB, wo_times, wo_ixT, wo_ixL, wo_ixAT, wo_ixAL, wo_ixAS, wo_lenT, wo_lenL, wo_lenAT, wo_lenAL, wo_lenAS, wo_abs, wo_intB, wo_tup, wo_lst, wo_tupleL, wo_eqI, wo_eqB, wo_eqSt, wo_neS, wo_neB, wo_neI, wo_is, wo_isnot, wo_str, wo_isI_bl, wo_isI_int, wo_isI_str, wo_isI_tup, wo_isI_non, isI_same, List.map_cons, List.map_nil, List.length_cons, List.length_nil, Nat.reduceAdd, Nat.reduceSub, List.replicate, List.cons_append, List.nil_append, List.getElem?_cons_zero, List.getElem?_cons_succ, List.set_cons_zero, List.set_cons_succ, ex_some, ex_some1, ex_bl, ex_int, at3_0, at3_1, at3_2, at2_0, at2_1, lstOf_last, decide_eq_true_eq, we_get1, we_get2, we_callV, we_fnc, we_dictT, wg_putX, sz0, true_and]
        all_goals first | trivial | exact ⟨(by first | rfl | trivial), (by first | rfl | trivial), (by first | rfl | trivial)⟩
      rintro l S4 ⟨rfl, rfl⟩
      refine ws_cut (fun l S5 => ∃ y6 y7, l = [some dM, some (.ref n), some (.int (q.1 : Int)), some (.int (q.2 : Int)), some (wD u), some (.ref S3.length), y6, y7] ∧ Gr S3 S5 ∧ S5[S3.length]? = some (.lst (((List.range asks).filter (nearer rs kvs q m)).map nD))) ?_ ?_
      · have hA : aCons (eOp dIxA (eVar 0) (eC (.int 0))) aNil [some dM, some (.ref n), some (.int (q.1 : Int)), some (.int (q.2 : Int)), some (wD u), some (.ref S3.length), x6, x7] (S3 ++ [.lst []]) = some ([.int (asks : Int)], S3 ++ [.lst []]) := by rw [← hM]; rfl
        refine ws_rng (fun c l S5 => ∃ y6 y7, l = [some dM, some (.ref n), some (.int (q.1 : Int)), some (.int (q.2 : Int)), some (wD u), some (.ref S3.length), y6, y7] ∧ Gr S3 S5 ∧ S5[S3.length]? = some (.lst ((((List.range asks).take c).filter (nearer rs kvs q m)).map nD))) (fun _ _ => False) hA (by omega) ⟨x6, x7, rfl, (Gr.refl _).push _, by simpa using get_new⟩ ?_ ?_ (fun d l' S' z => z.elim)
        · rintro c l S5 hc ⟨y6, y7, rfl, g5, s5⟩
          simp only [wg_name, List.set_cons_zero, List.set_cons_succ]
          refine ws_cut (fun l S6 => l = [some dM, some (.ref n), some (.int (q.1 : Int)), some (.int (q.2 : Int)), some (wD u), some (.ref S3.length), some (.int (c : Int)), some (qD (nxt rs q c))] ∧ S6 = S5) ?_ ?_
          · rw [← hM]
            simp only [wo_run, ws_seq, ws_if, wt_e, we_op, we_un, we_var, we_c, ws_asg, ws_ret, ws_drop, ws_next, ws_break, ws_cont, wg_name, wg_sub, wg_tup, wg_nil, wg_cons, wg_dput, we_call, we_methL, we_methS, wa_cons, wa_nil, wt_and, wt_or, wt_not, we_and, we_or, we_not, we_if, wo_I0, wo_I, wo_plusAI, wo_plusAT, we_slA, wp_none, wp_some, ex_int1, wo_slT, wo_intAB, wo_times, wo_ixT, wo_ixL, wo_ixAT, wo_ixAL, wo_ixAS, wo_lenT, wo_lenL, wo_lenAT, wo_lenAL, wo_lenAS, wo_abs, wo_intB, wo_tup, wo_lst, wo_tupleL, wo_eqI, wo_eqB, wo_eqSt, wo_neS, wo_neB, wo_neI, wo_is, wo_isnot, wo_str, wo_isI_bl, wo_isI_int, wo_isI_str, wo_isI_tup, wo_isI_non, isI_same, List.map_cons, List.map_nil, List.length_cons, List.length_nil, Nat.reduceAdd, Nat.reduceSub, List.replicate, List.cons_append, List.nil_append, List.getElem?_cons_zero, List.getElem?_cons_succ, List.set_cons_zero, List.set_cons_succ, ex_some, ex_some1, ex_bl, ex_int, at3_0, at3_1, at3_2, at2_0, at2_1, lstOf_last, decide_eq_true_eq, we_get1, we_get2, we_callV, we_fnc, we_dictT, wg_putX]
            refine ⟨_, _, lawboth_ok h hq.1 hq.2 hc, ?_⟩
            all_goals first | trivial | exact ⟨(by first | rfl | trivial), (by first | rfl | trivial), (by first | rfl | trivial)⟩
          rintro l S6 ⟨rfl, rfl⟩
          have kq6 := key q S6 (g.trans g5)
          rw [(F.yes q m hq dq).1] at kq6
          refine ws_if' (fun b S7 => b = nearer rs kvs q m c ∧ S7 = S6) ?_ ?_ ?_
          · have hdc := isDcT ((g.trans g5).get hs)
            cases cc : nxt rs q c with
            | none =>
              simp only [wt_e, we_op, we_un, we_var, we_c, wg_name, wg_sub, wg_tup, wg_nil, wg_cons, wg_dput, we_call, we_methL, we_methS, wa_cons, wa_nil, wt_and, wt_or, wt_not, we_and, we_or, we_not, we_if, wo_I0, wo_I, wo_plusAI, wo_plusAT, we_slA, wp_none, wp_some, ex_int1, wo_slT, wo_intAB, wo_times, wo_ixT, wo_ixL, wo_ixAT, wo_ixAL, wo_ixAS, wo_lenT, wo_lenL, wo_lenAT, wo_lenAL, wo_lenAS, wo_abs, wo_intB, wo_tup, wo_lst, wo_tupleL, wo_eqI, wo_eqB, wo_eqSt, wo_neS, wo_neB, wo_neI, wo_is, wo_isnot, wo_str, wo_isI_bl, wo_isI_int, wo_isI_str, wo_isI_tup, wo_isI_non, isI_same, List.map_cons, List.map_nil, List.length_cons, List.length_nil, Nat.reduceAdd, Nat.reduceSub, List.replicate, List.cons_append, List.nil_append, List.getElem?_cons_zero, List.getElem?_cons_succ, List.set_cons_zero, List.set_cons_succ, ex_some, ex_some1, ex_bl, ex_int, at3_0, at3_1, at3_2, at2_0, at2_1, lstOf_last, decide_eq_true_eq, we_get1, we_get2, we_callV, we_fnc, we_dictT, wg_putX, qD, isNon, Bool.not_true, Bool.false_eq_true, if_false]
              refine ⟨?_, (by first | rfl | trivial)⟩
              unfold nearer; rw [cc]
            | some r' =>
              have kr := key r' S6 (g.trans g5)
              have hri' := nxt_in h hq hc cc
              simp only [wt_e, we_op, we_un, we_var, we_c, wg_name, wg_sub, wg_tup, wg_nil, wg_cons, wg_dput, we_call, we_methL, we_methS, wa_cons, wa_nil, wt_and, wt_or, wt_not, we_and, we_or, we_not, we_if, wo_I0, wo_I, wo_plusAI, wo_plusAT, we_slA, wp_none, wp_some, ex_int1, wo_slT, wo_intAB, wo_times, wo_ixT, wo_ixL, wo_ixAT, wo_ixAL, wo_ixAS, wo_lenT, wo_lenL, wo_lenAT, wo_lenAL, wo_lenAS, wo_abs, wo_intB, wo_tup, wo_lst, wo_tupleL, wo_eqI, wo_eqB, wo_eqSt, wo_neS, wo_neB, wo_neI, wo_is, wo_isnot, wo_str, wo_isI_bl, wo_isI_int, wo_isI_str, wo_isI_tup, wo_isI_non, isI_same, List.map_cons, List.map_nil, List.length_cons, List.length_nil, Nat.reduceAdd, Nat.reduceSub, List.replicate, List.cons_append, List.nil_append, List.getElem?_cons_zero, List.getElem?_cons_succ, List.set_cons_zero, List.set_cons_succ, ex_some, ex_some1, ex_bl, ex_int, at3_0, at3_1, at3_2, at2_0, at2_1, lstOf_last, decide_eq_true_eq, we_get1, we_get2, we_callV, we_fnc, we_dictT, wg_putX, qD, isNon_pD, Bool.not_false, if_true, hdc, true_and]
              rw [show pD r' = .tup [.int (r'.1 : Int), .int (r'.2 : Int)] from rfl, kr]
              simp only [wt_e, we_op, we_un, we_var, we_c, wg_name, wg_sub, wg_tup, wg_nil, wg_cons, wg_dput, we_call, we_methL, we_methS, wa_cons, wa_nil, wt_and, wt_or, wt_not, we_and, we_or, we_not, we_if, wo_I0, wo_I, wo_plusAI, wo_plusAT, we_slA, wp_none, wp_some, ex_int1, wo_slT, wo_intAB, wo_times, wo_ixT, wo_ixL, wo_ixAT, wo_ixAL, wo_ixAS, wo_lenT, wo_lenL, wo_lenAT, wo_lenAL, wo_lenAS, wo_abs, wo_intB, wo_tup, wo_lst, wo_tupleL, wo_eqI, wo_eqB, wo_eqSt, wo_neS, wo_neB, wo_neI, wo_is, wo_isnot, wo_str, wo_isI_bl, wo_isI_int, wo_isI_str, wo_isI_tup, wo_isI_non, isI_same, List.map_cons, List.map_nil, List.length_cons, List.length_nil, Nat.reduceAdd, Nat.reduceSub, List.replicate, List.cons_append, List.nil_append, List.getElem?_cons_zero, List.getElem?_cons_succ, List.set_cons_zero, List.set_cons_succ, ex_some, ex_some1, ex_bl, ex_int, at3_0, at3_1, at3_2, at2_0, at2_1, lstOf_last, decide_eq_true_eq, we_get1, we_get2, we_callV, we_fnc, we_dictT, wg_putX, sz2, true_and, wo_getX, kq6, Option.some.injEq, exists_eq_left']
              unfold nearer
              rw [cc]
              dsimp only
              by_cases e : ∃ k, Di asks rs r' k
              · obtain ⟨k, d⟩ := e
                rw [(F.yes r' k hri' d).1]
                simp only [wt_e, we_op, we_un, we_var, we_c, wg_name, wg_sub, wg_tup, wg_nil, wg_cons, wg_dput, we_call, we_methL, we_methS, wa_cons, wa_nil, wt_and, wt_or, wt_not, we_and, we_or, we_not, we_if, wo_I0, wo_I, wo_plusAI, wo_plusAT, we_slA, wp_none, wp_some, ex_int1, wo_slT, wo_intAB, wo_times, wo_ixT, wo_ixL, wo_ixAT, wo_ixAL, wo_ixAS, wo_lenT, wo_lenL, wo_lenAT, wo_lenAL, wo_lenAS, wo_abs, wo_intB, wo_tup, wo_lst, wo_tupleL, wo_eqI, wo_eqB, wo_eqSt, wo_neS, wo_neB, wo_neI, wo_is, wo_isnot, wo_str, wo_isI_bl, wo_isI_int, wo_isI_str, wo_isI_tup, wo_isI_non, isI_same, List.map_cons, List.map_nil, List.length_cons, List.length_nil, Nat.reduceAdd, Nat.reduceSub, List.replicate, List.cons_append, List.nil_append, List.getElem?_cons_zero, List.getElem?_cons_succ, List.set_cons_zero, List.set_cons_succ, ex_some, ex_some1, ex_bl, ex_int, at3_0, at3_1, at3_2, at2_0, at2_1, lstOf_last, decide_eq_true_eq, we_get1, we_get2, we_callV, we_fnc, we_dictT, wg_putX, Option.getD_some]
                first | exact ⟨(by first | rfl | trivial), (by first | rfl | trivial)⟩ | exact ⟨(by first | rfl | trivial)⟩
              · rw [F.no r' hri' fun k d => e ⟨k, d⟩]
                simp only [wt_e, we_op, we_un, we_var, we_c, wg_name, wg_sub, wg_tup, wg_nil, wg_cons, wg_dput, we_call, we_methL, we_methS, wa_cons, wa_nil, wt_and, wt_or, wt_not, we_and, we_or, we_not, we_if, wo_I0, wo_I, wo_plusAI, wo_plusAT, we_slA, wp_none, wp_some, ex_int1, wo_slT, wo_intAB, wo_times, wo_ixT, wo_ixL, wo_ixAT, wo_ixAL, wo_ixAS, wo_lenT, wo_lenL, wo_lenAT, wo_lenAL, wo_lenAS, wo_abs, wo_intB, wo_tup, wo_lst, wo_tupleL, wo_eqI, wo_eqB, wo_eqSt, wo_neS, wo_neB, wo_neI, wo_is, wo_isnot, wo_str, wo_isI_bl, wo_isI_int, wo_isI_str, wo_isI_tup, wo_isI_non, isI_same, List.map_cons, List.map_nil, List.length_cons, List.length_nil, Nat.reduceAdd, Nat.reduceSub, List.replicate, List.cons_append, List.nil_append, List.getElem?_cons_zero, List.getElem?_cons_succ, List.set_cons_zero, List.set_cons_succ, ex_some, ex_some1, ex_bl, ex_int, at3_0, at3_1, at3_2, at2_0, at2_1, lstOf_last, decide_eq_true_eq, we_get1, we_get2, we_callV, we_fnc, we_dictT, wg_putX, Option.getD_none]
                refine ⟨?_, (by first | rfl | trivial)⟩
                exact decide_eq_false (by omega)
          · rintro S7 ⟨hb, rfl⟩
            have hln : ((((List.range asks).take c).filter (nearer rs kvs q m)).map nD).length < sizeLine := by
              rw [List.length_map]
              have := List.length_filter_le (nearer rs kvs q m) ((List.range asks).take c)
              have h2 : ((List.range asks).take c).length ≤ asks := by simp; omega
              omega
            rw [ws_drop, we_methL]
            simp only [wt_e, we_op, we_un, we_var, we_c, wg_name, wg_sub, wg_tup, wg_nil, wg_cons, wg_dput, we_call, we_methL, we_methS, wa_cons, wa_nil, wt_and, wt_or, wt_not, we_and, we_or, we_not, we_if, wo_I0, wo_I, wo_plusAI, wo_plusAT, we_slA, wp_none, wp_some, ex_int1, wo_slT, wo_intAB, wo_times, wo_ixT, wo_ixL, wo_ixAT, wo_ixAL, wo_ixAS, wo_lenT, wo_lenL, wo_lenAT, wo_lenAL, wo_lenAS, wo_abs, wo_intB, wo_tup, wo_lst, wo_tupleL, wo_eqI, wo_eqB, wo_eqSt, wo_neS, wo_neB, wo_neI, wo_is, wo_isnot, wo_str, wo_isI_bl, wo_isI_int, wo_isI_str, wo_isI_tup, wo_isI_non, isI_same, List.map_cons, List.map_nil, List.length_cons, List.length_nil, Nat.reduceAdd, Nat.reduceSub, List.replicate, List.cons_append, List.nil_append, List.getElem?_cons_zero, List.getElem?_cons_succ, List.set_cons_zero, List.set_cons_succ, ex_some, ex_some1, ex_bl, ex_int, at3_0, at3_1, at3_2, at2_0, at2_1, lstOf_last, decide_eq_true_eq, we_get1, we_get2, we_callV, we_fnc, we_dictT, wg_putX, recvL_of s5, ex_ok, true_and]
            rw [wo_app s5 hln]
            refine .inl ⟨.inl (by first | rfl | trivial), _, _, rfl, g5.set (Nat.le_refl _) _, ?_⟩
            rw [filtN_snoc hc, if_pos hb.symm, List.map_append]
            exact get_set s5
          · rintro S7 ⟨hb, rfl⟩
            simp only [wt_e, we_op, we_un, we_var, we_c, wg_name, wg_sub, wg_tup, wg_nil, wg_cons, wg_dput, we_call, we_methL, we_methS, wa_cons, wa_nil, wt_and, wt_or, wt_not, we_and, we_or, we_not, we_if, wo_I0, wo_I, wo_plusAI, wo_plusAT, we_slA, wp_none, wp_some, ex_int1, wo_slT, wo_intAB, wo_times, wo_ixT, wo_ixL, wo_ixAT, wo_ixAL, wo_ixAS, wo_lenT, wo_lenL, wo_lenAT, wo_lenAL, wo_lenAS, wo_abs, wo_intB, wo_tup, wo_lst, wo_tupleL, wo_eqI, wo_eqB, wo_eqSt, wo_neS, wo_neB, wo_neI, wo_is, wo_isnot, wo_str, wo_isI_bl, wo_isI_int, wo_isI_str, wo_isI_tup, wo_isI_non, isI_same, List.map_cons, List.map_nil, List.length_cons, List.length_nil, Nat.reduceAdd, Nat.reduceSub, List.replicate, List.cons_append, List.nil_append, List.getElem?_cons_zero, List.getElem?_cons_succ, List.set_cons_zero, List.set_cons_succ, ex_some, ex_some1, ex_bl, ex_int, at3_0, at3_1, at3_2, at2_0, at2_1, lstOf_last, decide_eq_true_eq, we_get1, we_get2, we_callV, we_fnc, we_dictT, wg_putX, ws_next]
            refine .inl ⟨.inl (by first | rfl | trivial), _, _, rfl, g5, ?_⟩
            rw [filtN_snoc hc, if_neg (by rw [← hb]; exact Bool.false_ne_true), List.append_nil]
            exact s5
        · rintro l' S' ⟨y6, y7, rfl, g5, s5⟩
          rw [List.take_of_length_le (by simp)] at s5
          exact ⟨rfl, y6, y7, rfl, g5, s5⟩
      rintro l S5 ⟨y6, y7, rfl, g5, s5⟩
      rw [e0] at s5
      have at0 : L2.atI (nD a0 :: t.map nD) 0 = some (.int (a0 : Int)) := atI_get (i := 0) rfl
      refine ws_cut (fun l S6 => l = [some dM, some (.ref n), some (.int (q.1 : Int)), some (.int (q.2 : Int)), some (wD (u ++ [a0])), some (.ref S3.length), y6, y7] ∧ S6 = S5) ?_ ?_
      · simp only [wo_run, ws_seq, ws_if, wt_e, we_op, we_un, we_var, we_c, ws_asg, ws_ret, ws_drop, ws_next, ws_break, ws_cont, wg_name, wg_sub, wg_tup, wg_nil, wg_cons, wg_dput, we_call, we_methL, we_methS, wa_cons, wa_nil, wt_and, wt_or, wt_not, we_and, we_or, we_not, we_if, wo_I0, wo_I, wo_plusAI, wo_plusAT, we_slA, wp_none, wp_some, ex_int1, wo_slT, wo_intAB, wo_times, wo_ixT, wo_ixL, wo_ixAT, wo_ixAL, wo_ixAS, wo_lenT, wo_lenL, wo_lenAT, wo_lenAL, wo_lenAS, wo_abs, wo_intB, wo_tup, wo_lst, wo_tupleL, wo_eqI, wo_eqB, wo_eqSt, wo_neS, wo_neB, wo_neI, wo_is, wo_isnot, wo_str, wo_isI_bl, wo_isI_int, wo_isI_str, wo_isI_tup, wo_isI_non, isI_same, List.map_cons, List.map_nil, List.length_cons, List.length_nil, Nat.reduceAdd, Nat.reduceSub, List.replicate, List.cons_append, List.nil_append, List.getElem?_cons_zero, List.getElem?_cons_succ, List.set_cons_zero, List.set_cons_succ, ex_some, ex_some1, ex_bl, ex_int, at3_0, at3_1, at3_2, at2_0, at2_1, lstOf_last, decide_eq_true_eq, we_get1, we_get2, we_callV, we_fnc, we_dictT, wg_putX, lstOf_of s5, at0, sz1, true_and]
        unfold wD
        simp only [wo_run, ws_seq, ws_if, wt_e, we_op, we_un, we_var, we_c, ws_asg, ws_ret, ws_drop, ws_next, ws_break, ws_cont, wg_name, wg_sub, wg_tup, wg_nil, wg_cons, wg_dput, we_call, we_methL, we_methS, wa_cons, wa_nil, wt_and, wt_or, wt_not, we_and, we_or, we_not, we_if, wo_I0, wo_I, wo_plusAI, wo_plusAT, we_slA, wp_none, wp_some, ex_int1, wo_slT, wo_intAB, wo_times, wo_ixT, wo_ixL, wo_ixAT, wo_ixAL, wo_ixAS, wo_lenT, wo_lenL, wo_lenAT, wo_lenAL, wo_lenAS, wo_abs, wo_intB, wo_tup, wo_lst, wo_tupleL, wo_eqI, wo_eqB, wo_eqSt, wo_neS, wo_neB, wo_neI, wo_is, wo_isnot, wo_str, wo_isI_bl, wo_isI_int, wo_isI_str, wo_isI_tup, wo_isI_non, isI_same, List.map_cons, List.map_nil, List.length_cons, List.length_nil, Nat.reduceAdd, Nat.reduceSub, List.replicate, List.cons_append, List.nil_append, List.getElem?_cons_zero, List.getElem?_cons_succ, List.set_cons_zero, List.set_cons_succ, ex_some, ex_some1, ex_bl, ex_int, at3_0, at3_1, at3_2, at2_0, at2_1, lstOf_last, decide_eq_true_eq, we_get1, we_get2, we_callV, we_fnc, we_dictT, wg_putX]
        refine ⟨by rw [List.length_map]; omega, ?_⟩
        rw [wD_app]
        first | exact ⟨(by first | rfl | trivial), (by first | rfl | trivial), (by first | rfl | trivial)⟩ | exact ⟨(by first | rfl | trivial), (by first | rfl | trivial)⟩
      rintro l S6 ⟨rfl, rfl⟩
      rw [← hM]
      simp only [wo_run, ws_seq, ws_if, wt_e, we_op, we_un, we_var, we_c, ws_asg, ws_ret, ws_drop, ws_next, ws_break, ws_cont, wg_name, wg_sub, wg_tup, wg_nil, wg_cons, wg_dput, we_call, we_methL, we_methS, wa_cons, wa_nil, wt_and, wt_or, wt_not, we_and, we_or, we_not, we_if, wo_I0, wo_I, wo_plusAI, wo_plusAT, we_slA, wp_none, wp_some, ex_int1, wo_slT, wo_intAB, wo_times, wo_ixT, wo_ixL, wo_ixAT, wo_ixAL, wo_ixAS, wo_lenT, wo_lenL, wo_lenAT, wo_lenAL, wo_lenAS, wo_abs, wo_intB, wo_tup, wo_lst, wo_tupleL, wo_eqI, wo_eqB, wo_eqSt, wo_neS, wo_neB, wo_neI, wo_is, wo_isnot, wo_str, wo_isI_bl, wo_isI_int, wo_isI_str, wo_isI_tup, wo_isI_non, isI_same, List.map_cons, List.map_nil, List.length_cons, List.length_nil, Nat.reduceAdd, Nat.reduceSub, List.replicate, List.cons_append, List.nil_append, List.getElem?_cons_zero, List.getElem?_cons_succ, List.set_cons_zero, List.set_cons_succ, ex_some, ex_some1, ex_bl, ex_int, at3_0, at3_1, at3_2, at2_0, at2_1, lstOf_last, decide_eq_true_eq, we_get1, we_get2, we_callV, we_fnc, we_dictT, wg_putX, lstOf_of s5, at0]
      refine ⟨_, _, lawboth_ok h hq.1 hq.2 ha0, ?_⟩
      rw [hr]
      rw [show qD (some r) = .tup [.int (r.1 : Int), .int (r.2 : Int)] from rfl]
      simp only [wo_run, ws_seq, ws_if, wt_e, we_op, we_un, we_var, we_c, ws_asg, ws_ret, ws_drop, ws_next, ws_break, ws_cont, wg_name, wg_sub, wg_tup, wg_nil, wg_cons, wg_dput, we_call, we_methL, we_methS, wa_cons, wa_nil, wt_and, wt_or, wt_not, we_and, we_or, we_not, we_if, wo_I0, wo_I, wo_plusAI, wo_plusAT, we_slA, wp_none, wp_some, ex_int1, wo_slT, wo_intAB, wo_times, wo_ixT, wo_ixL, wo_ixAT, wo_ixAL, wo_ixAS, wo_lenT, wo_lenL, wo_lenAT, wo_lenAL, wo_lenAS, wo_abs, wo_intB, wo_tup, wo_lst, wo_tupleL, wo_eqI, wo_eqB, wo_eqSt, wo_neS, wo_neB, wo_neI, wo_is, wo_isnot, wo_str, wo_isI_bl, wo_isI_int, wo_isI_str, wo_isI_tup, wo_isI_non, isI_same, List.map_cons, List.map_nil, List.length_cons, List.length_nil, Nat.reduceAdd, Nat.reduceSub, List.replicate, List.cons_append, List.nil_append, List.getElem?_cons_zero, List.getElem?_cons_succ, List.set_cons_zero, List.set_cons_succ, ex_some, ex_some1, ex_bl, ex_int, at3_0, at3_1, at3_2, at2_0, at2_1, lstOf_last, decide_eq_true_eq, we_get1, we_get2, we_callV, we_fnc, we_dictT, wg_putX, true_and]
      refine .inl ⟨(by first | exact .inl rfl | exact .inl trivial | trivial), m - 1, by omega, r, u ++ [a0], _, _, _, rfl, g.trans g5, hri, dr, by simp; omega, fun w hw => ?_⟩
      rw [List.append_assoc]
      refine hl _ (BF.Least.cons (n := m - 1) (by rw [show m - 1 + 1 = m by omega]; exact dq) (by omega) ha0 hr dr (fun b q' hb hs' dd => ?_) hw)
      have hb2 : b < asks := by omega
      have := hb0 b hb
      rw [(nearer_iff h F hq hb2 (by omega)).mpr ⟨q', hs', dd⟩] at this
      cases this
    · rw [if_neg (by omega)]
      have : m = 1 := by omega
      subst this
      exact ⟨q, u, x5, x6, x7, rfl, g, hq, dq, by omega, hl⟩
  rintro l S3 ⟨q, u, x5, x6, x7, rfl, g, hq, dq, hul, hl⟩
  obtain ⟨a1, t, e1, ha1, hf1, hb1⟩ := first_of (A := asks) (f := fl rs q) (BF.Ds.one.mp dq)
  refine ws_cut (fun l S4 => ∃ n5, l = [some dM, some (.ref n), some (.int (q.1 : Int)), some (.int (q.2 : Int)), some (wD u), some (.ref n5), x6, x7] ∧ Gr S3 S4 ∧ S4[n5]? = some (.lst (((List.range asks).filter (fl rs q)).map nD))) ?_ ?_
  · rw [ws_asg]
    have ha0 : aCons (eOp dIxA (eVar 0) (eC (.int 0))) aNil [some dM, some (.ref n), some (.int (q.1 : Int)), some (.int (q.2 : Int)), some (wD u), x5, x6, x7] S3 = some ([.int (asks : Int)], S3) := by rw [← hM]; rfl
    refine we_compF (rngD 0 asks) (unF rs q) (fun T => Gr S3 T) (fun l => ∃ x0, l = [x0, some dM, some (.int (q.1 : Int)), some (.int (q.2 : Int))]) (rng_im ha0 (by omega)) (Gr.refl S3) ⟨none, rfl⟩ (fun i T _ => rfl) (by rw [rngD_len]; omega) ?_ ?_
    · rintro x l T hx ⟨x0, rfl⟩ hT
      obtain ⟨a, ha, rfl⟩ := rng_mem hx
      simp only [wg_name, List.set_cons_zero]
      refine ⟨⟨_, rfl⟩, ?_⟩
      rw [← hM]
      simp only [wt_e, we_op, we_un, we_var, we_c, wg_name, wg_sub, wg_tup, wg_nil, wg_cons, wg_dput, we_call, we_methL, we_methS, wa_cons, wa_nil, wt_and, wt_or, wt_not, we_and, we_or, we_not, we_if, wo_I0, wo_I, wo_plusAI, wo_plusAT, we_slA, wp_none, wp_some, ex_int1, wo_slT, wo_intAB, wo_times, wo_ixT, wo_ixL, wo_ixAT, wo_ixAL, wo_ixAS, wo_lenT, wo_lenL, wo_lenAT, wo_lenAL, wo_lenAS, wo_abs, wo_intB, wo_tup, wo_lst, wo_tupleL, wo_eqI, wo_eqB, wo_eqSt, wo_neS, wo_neB, wo_neI, wo_is, wo_isnot, wo_str, wo_isI_bl, wo_isI_int, wo_isI_str, wo_isI_tup, wo_isI_non, isI_same, List.map_cons, List.map_nil, List.length_cons, List.length_nil, Nat.reduceAdd, Nat.reduceSub, List.replicate, List.cons_append, List.nil_append, List.getElem?_cons_zero, List.getElem?_cons_succ, List.set_cons_zero, List.set_cons_succ, ex_some, ex_some1, ex_bl, ex_int, at3_0, at3_1, at3_2, at2_0, at2_1, lstOf_last, decide_eq_true_eq, we_get1, we_get2, we_callV, we_fnc, we_dictT, wg_putX]
      refine ⟨_, _, lawunlike_ok h hq.1 hq.2 ha, ?_⟩
      refine ⟨_, rfl, hT, fun z => ?_, fun z => ?_⟩
      · rw [unF_at, if_neg (by rw [z]; exact Bool.false_ne_true)]
      · rw [unF_at, if_pos z]; exact ⟨rfl, hT⟩
    · intro T hT
      rw [unF_map]
      simp only [wg_name, List.set_cons_zero, List.set_cons_succ]
      first | exact ⟨(by first | rfl | trivial), _, rfl, hT.push _, get_new⟩ | exact ⟨_, rfl, hT.push _, get_new⟩
  rintro l S4 ⟨n5, rfl, g4, s5⟩
  rw [e1] at s5
  have at0 : L2.atI (nD a1 :: t.map nD) 0 = some (.int (a1 : Int)) := atI_get (i := 0) rfl
  simp only [wo_run, ws_seq, ws_if, wt_e, we_op, we_un, we_var, we_c, ws_asg, ws_ret, ws_drop, ws_next, ws_break, ws_cont, wg_name, wg_sub, wg_tup, wg_nil, wg_cons, wg_dput, we_call, we_methL, we_methS, wa_cons, wa_nil, wt_and, wt_or, wt_not, we_and, we_or, we_not, we_if, wo_I0, wo_I, wo_plusAI, wo_plusAT, we_slA, wp_none, wp_some, ex_int1, wo_slT, wo_intAB, wo_times, wo_ixT, wo_ixL, wo_ixAT, wo_ixAL, wo_ixAS, wo_lenT, wo_lenL, wo_lenAT, wo_lenAL, wo_lenAS, wo_abs, wo_intB, wo_tup, wo_lst, wo_tupleL, wo_eqI, wo_eqB, wo_eqSt, wo_neS, wo_neB, wo_neI, wo_is, wo_isnot, wo_str, wo_isI_bl, wo_isI_int, wo_isI_str, wo_isI_tup, wo_isI_non, isI_same, List.map_cons, List.map_nil, List.length_cons, List.length_nil, Nat.reduceAdd, Nat.reduceSub, List.replicate, List.cons_append, List.nil_append, List.getElem?_cons_zero, List.getElem?_cons_succ, List.set_cons_zero, List.set_cons_succ, ex_some, ex_some1, ex_bl, ex_int, at3_0, at3_1, at3_2, at2_0, at2_1, lstOf_last, decide_eq_true_eq, we_get1, we_get2, we_callV, we_fnc, we_dictT, wg_putX, lstOf_of s5, at0, sz1, true_and, wD]
  refine ⟨by rw [List.length_map]; omega, g.trans g4, some (u ++ [a1]), ?_, hl _ (BF.Least.one ha1 hf1 hb1)⟩
  rw [wD_app]; rfl
end M
set_option Elab.async false
set_option maxHeartbeats 1000000
set_option maxRecDepth 100000
namespace M
open PySem L3 G
theorem Pn.gr {ns : List Int} {rest : Sto} {k : Int} {S S' : Sto} (h : Pn ns rest k S) (g : Gr S S') : Pn ns rest k S' := by
  obtain ⟨a, r, ex, rfl, h1, h2, h3⟩ := h
  obtain ⟨x, rfl⟩ := g
  exact ⟨a, r, ex ++ x, by unfold St; simp, h1, h2, h3⟩
theorem wk_uniq {asks : Nat} {rs : List (List Cl)} {p : BF.P} {r s : Option (List Nat)} (h : Wk asks rs rs p r) (g : Wk asks rs rs p s) : r = s := by
  cases r with
  | none =>
    cases s with
    | none => rfl
    | some v => exact absurd g.1 (h v)
  | some u =>
    cases s with
    | none => exact absurd h.1 (g u)
    | some v => rw [BF.Least.uniq h g]
theorem sh_row {asks : Nat} {rs : List (List Cl)} {kvs : Tb} {p : BF.P} {r : Option (List Nat)} {S : Sto} (h : OkM asks rs) (F : FarOk asks rs kvs) (hp : p.1 < rs.length ∧ p.2 < rs.length) (hw : Wk asks rs rs p r) : Sh S 140 13000 (rowD r) := by
  cases r with
  | none => exact (sh_non (k := 139)).le (by decide)
  | some w =>
    have hw : BF.Least asks (nxt rs) (fl rs) p w := hw
    obtain ⟨m, _, d⟩ := BF.Ds.of ⟨w, hw.1, rfl⟩
    have hm := (F.yes p m hp d).2
    have hl := hw.len d
    obtain ⟨u, b, q, e, hb, hu, _, _⟩ := hw.1
    have ha4 := h.a4
    refine (sh_tup (k := 139) (B := 10) (n := 1000) (fun x hx => ?_) (by rw [List.length_map]; omega)).le (by decide)
    obtain ⟨a, ha, rfl⟩ := List.mem_map.mp hx
    refine sh_nat (k := 138) ?_
    rw [e] at ha
    rcases List.mem_append.mp ha with ha | ha
    · have := hu a ha; omega
    · have : a = b := by simpa using ha
      omega
theorem law_true (ns : List Int) (hl : ns.length ≤ 63) : ∃ S', m_law [.ref 0] [.flst (ns.map D.int)] = some (.bl true, S') := by
  have sz := sizeBig
  suffices h : Wo (m_law [.ref 0] [.flst (ns.map D.int)]) fun v S' => v = .bl true by
    obtain ⟨v, S', e, rfl⟩ := h
    exact ⟨S', e⟩
  unfold m_law b_law
  simp only [wo_run, List.map_cons, List.map_nil, List.length_cons, List.length_nil, Nat.reduceAdd, Nat.reduceSub, List.replicate, List.cons_append, List.nil_append]
  refine ws_cut (fun l S => l = [some (.ref 0), some (.ref 1), none, none, none, none, none, none] ∧ Pn ns [] 0 S) ?_ ?_
  · simp only [wo_run, ws_seq, ws_if, wt_e, we_op, we_un, we_var, we_c, ws_asg, ws_ret, ws_drop, ws_next, ws_break, ws_cont, wg_name, wg_sub, wg_tup, wg_nil, wg_cons, wg_dput, we_call, we_methL, we_methS, wa_cons, wa_nil, wt_and, wt_or, wt_not, we_and, we_or, we_not, we_if, wo_I0, wo_I, wo_plusAI, wo_plusAT, we_slA, wp_none, wp_some, ex_int1, wo_slT, wo_intAB, wo_times, wo_ixT, wo_ixL, wo_ixAT, wo_ixAL, wo_ixAS, wo_lenT, wo_lenL, wo_lenAT, wo_lenAL, wo_lenAS, wo_abs, wo_intB, wo_tup, wo_lst, wo_tupleL, wo_eqI, wo_eqB, wo_eqSt, wo_neS, wo_neB, wo_neI, wo_is, wo_isnot, wo_str, wo_isI_bl, wo_isI_int, wo_isI_str, wo_isI_tup, wo_isI_non, isI_same, List.map_cons, List.map_nil, List.length_cons, List.length_nil, Nat.reduceAdd, Nat.reduceSub, List.replicate, List.cons_append, List.nil_append, List.getElem?_cons_zero, List.getElem?_cons_succ, List.set_cons_zero, List.set_cons_succ, ex_some, ex_some1, ex_bl, ex_int, at3_0, at3_1, at3_2, at2_0, at2_1, lstOf_last, decide_eq_true_eq, we_get1, we_get2, we_callV, we_fnc, we_dictT, wg_putX]
    refine ⟨by omega, (by first | rfl | trivial), (by first | rfl | trivial), 0, 0, [], ?_, by omega, by omega, by omega⟩
    rfl
  rintro l S ⟨rfl, p0⟩
  refine ws_cutO (fun l S => True) (fun d S => False) ?_ ?_ (fun d l1 S1 o => o.elim)
  · refine ws_rng (fun c l S1 => ∃ x2 x3 x4 x5 x6 x7, l = [some (.ref 0), some (.ref 1), x2, x3, x4, x5, x6, x7] ∧ Pn ns [] (1000 * (c : Int)) S1) (fun _ _ => False) (n := 4) rfl (by decide) ⟨_, _, _, _, _, _, rfl, by simpa using p0⟩ ?_ (fun l' S' _ => .inl ⟨rfl, trivial⟩) (fun d l' S' z => z.elim)
    rintro c l S1 hc ⟨x2, x3, x4, x5, x6, x7, rfl, p⟩
    simp only [wg_name, List.set_cons_zero, List.set_cons_succ]
    refine ws_cut (fun l S2 => ∃ asks rs, l = [some (.ref 0), some (.ref 1), some (.int (c : Int)), some (mD asks rs), x4, x5, x6, x7] ∧ OkM asks rs ∧ Pn ns [] (1000 * ((c + 1 : Nat) : Int)) S2) ?_ ?_
    · simp only [wo_run, ws_seq, ws_if, wt_e, we_op, we_un, we_var, we_c, ws_asg, ws_ret, ws_drop, ws_next, ws_break, ws_cont, wg_name, wg_sub, wg_tup, wg_nil, wg_cons, wg_dput, we_call, we_methL, we_methS, wa_cons, wa_nil, wt_and, wt_or, wt_not, we_and, we_or, we_not, we_if, wo_I0, wo_I, wo_plusAI, wo_plusAT, we_slA, wp_none, wp_some, ex_int1, wo_slT, wo_intAB, wo_times, wo_ixT, wo_ixL, wo_ixAT, wo_ixAL, wo_ixAS, wo_lenT, wo_lenL, wo_lenAT, wo_lenAL, wo_lenAS, wo_abs, wo_intB, wo_tup, wo_lst, wo_tupleL, wo_eqI, wo_eqB, wo_eqSt, wo_neS, wo_neB, wo_neI, wo_is, wo_isnot, wo_str, wo_isI_bl, wo_isI_int, wo_isI_str, wo_isI_tup, wo_isI_non, isI_same, List.map_cons, List.map_nil, List.length_cons, List.length_nil, Nat.reduceAdd, Nat.reduceSub, List.replicate, List.cons_append, List.nil_append, List.getElem?_cons_zero, List.getElem?_cons_succ, List.set_cons_zero, List.set_cons_succ, ex_some, ex_some1, ex_bl, ex_int, at3_0, at3_1, at3_2, at2_0, at2_1, lstOf_last, decide_eq_true_eq, we_get1, we_get2, we_callV, we_fnc, we_dictT, wg_putX]
      refine (machine_ok ns [] S1 (1000 * (c : Int)) 7 p (by omega) (by omega) (by decide) (by decide)).mono ?_
      rintro v S2 ⟨⟨many, asks, hm, hm7⟩, p2⟩
      obtain ⟨rs, rfl, ok, _⟩ := mach_of hm (by omega)
      first | exact ⟨(by first | rfl | trivial), asks, rs, rfl, ok, p2.mono (by omega)⟩ | exact ⟨asks, rs, rfl, ok, p2.mono (by omega)⟩
    rintro l S2 ⟨asks, rs, rfl, ok, p2⟩
    refine ws_cut (fun l S3 => ∃ n4 kvs, l = [some (.ref 0), some (.ref 1), some (.int (c : Int)), some (mD asks rs), some (.ref n4), x5, x6, x7] ∧ S3[n4]? = some (.tdct kvs) ∧ FarOk asks rs kvs ∧ Pn ns [] (1000 * ((c + 1 : Nat) : Int)) S3) ?_ ?_
    · simp only [wo_run, ws_seq, ws_if, wt_e, we_op, we_un, we_var, we_c, ws_asg, ws_ret, ws_drop, ws_next, ws_break, ws_cont, wg_name, wg_sub, wg_tup, wg_nil, wg_cons, wg_dput, we_call, we_methL, we_methS, wa_cons, wa_nil, wt_and, wt_or, wt_not, we_and, we_or, we_not, we_if, wo_I0, wo_I, wo_plusAI, wo_plusAT, we_slA, wp_none, wp_some, ex_int1, wo_slT, wo_intAB, wo_times, wo_ixT, wo_ixL, wo_ixAT, wo_ixAL, wo_ixAS, wo_lenT, wo_lenL, wo_lenAT, wo_lenAL, wo_lenAS, wo_abs, wo_intB, wo_tup, wo_lst, wo_tupleL, wo_eqI, wo_eqB, wo_eqSt, wo_neS, wo_neB, wo_neI, wo_is, wo_isnot, wo_str, wo_isI_bl, wo_isI_int, wo_isI_str, wo_isI_tup, wo_isI_non, isI_same, List.map_cons, List.map_nil, List.length_cons, List.length_nil, Nat.reduceAdd, Nat.reduceSub, List.replicate, List.cons_append, List.nil_append, List.getElem?_cons_zero, List.getElem?_cons_succ, List.set_cons_zero, List.set_cons_succ, ex_some, ex_some1, ex_bl, ex_int, at3_0, at3_1, at3_2, at2_0, at2_1, lstOf_last, decide_eq_true_eq, we_get1, we_get2, we_callV, we_fnc, we_dictT, wg_putX]
      refine Wo.mono (far_ok ok) ?_
      rintro v S3 ⟨g, n4, kvs, rfl, s4, F⟩
      first | exact ⟨(by first | rfl | trivial), n4, kvs, rfl, s4, F, p2.gr g⟩ | exact ⟨n4, kvs, rfl, s4, F, p2.gr g⟩
    rintro l S3 ⟨n4, kvs, rfl, s4, F, p3⟩
    have hr24 := ok.r24
    have hA : ∀ (y5 y6 y7 : Option D) (T : Sto), aCons (eCall fLenA (aCons (eOp dIxA (eVar 3) (eC (.int 1))) (aNil))) (aNil) [some (.ref 0), some (.ref 1), some (.int (c : Int)), some (mD asks rs), some (.ref n4), y5, y6, y7] T = some ([.int (rs.length : Int)], T) := fun y5 y6 y7 T => by
      have : Wa (aCons (eCall fLenA (aCons (eOp dIxA (eVar 3) (eC (.int 1))) (aNil))) (aNil)) [some (.ref 0), some (.ref 1), some (.int (c : Int)), some (mD asks rs), some (.ref n4), y5, y6, y7] T fun xs S' => xs = [.int (rs.length : Int)] ∧ S' = T := by
        simp only [wt_e, we_op, we_un, we_var, we_c, wg_name, wg_sub, wg_tup, wg_nil, wg_cons, wg_dput, we_call, we_methL, we_methS, wa_cons, wa_nil, wt_and, wt_or, wt_not, we_and, we_or, we_not, we_if, wo_I0, wo_I, wo_plusAI, wo_plusAT, we_slA, wp_none, wp_some, ex_int1, wo_slT, wo_intAB, wo_times, wo_ixT, wo_ixL, wo_ixAT, wo_ixAL, wo_ixAS, wo_lenT, wo_lenL, wo_lenAT, wo_lenAL, wo_lenAS, wo_abs, wo_intB, wo_tup, wo_lst, wo_tupleL, wo_eqI, wo_eqB, wo_eqSt, wo_neS, wo_neB, wo_neI, wo_is, wo_isnot, wo_str, wo_isI_bl, wo_isI_int, wo_isI_str, wo_isI_tup, wo_isI_non, isI_same, List.map_cons, List.map_nil, List.length_cons, List.length_nil, Nat.reduceAdd, Nat.reduceSub, List.replicate, List.cons_append, List.nil_append, List.getElem?_cons_zero, List.getElem?_cons_succ, List.set_cons_zero, List.set_cons_succ, ex_some, ex_some1, ex_bl, ex_int, at3_0, at3_1, at3_2, at2_0, at2_1, lstOf_last, decide_eq_true_eq, we_get1, we_get2, we_callV, we_fnc, we_dictT, wg_putX, mD, List.length_map]
        all_goals first | trivial | exact ⟨(by first | rfl | trivial), (by first | rfl | trivial)⟩
      obtain ⟨xs, S', e, rfl, rfl⟩ := this
      exact e
    refine ws_rng (fun i l S4 => ∃ y5 y6 y7, l = [some (.ref 0), some (.ref 1), some (.int (c : Int)), some (mD asks rs), some (.ref n4), y5, y6, y7] ∧ S4[n4]? = some (.tdct kvs) ∧ Pn ns [] (1000 * ((c + 1 : Nat) : Int)) S4) (fun _ _ => False) (hA _ _ _ _) (by omega) ⟨_, _, _, rfl, s4, p3⟩ ?_ (fun l' S' ⟨y5, y6, y7, e, _, p⟩ => .inl ⟨.inl rfl, _, _, _, _, _, _, e, p⟩) (fun d l' S' z => z.elim)
    rintro i l S4 hi ⟨y5, y6, y7, rfl, s4', p4⟩
    simp only [wg_name, List.set_cons_zero, List.set_cons_succ]
    refine ws_rng (fun j l S5 => ∃ y6 y7, l = [some (.ref 0), some (.ref 1), some (.int (c : Int)), some (mD asks rs), some (.ref n4), some (.int (i : Int)), y6, y7] ∧ S5[n4]? = some (.tdct kvs) ∧ Pn ns [] (1000 * ((c + 1 : Nat) : Int)) S5) (fun _ _ => False) (hA _ _ _ _) (by omega) ⟨_, _, rfl, s4', p4⟩ ?_ (fun l' S' ⟨y6, y7, e, s, p⟩ => .inl ⟨.inl rfl, _, _, _, e, s, p⟩) (fun d l' S' z => z.elim)
    rintro j l S5 hj ⟨y6, y7, rfl, s5, p5⟩
    simp only [wg_name, List.set_cons_zero, List.set_cons_succ]
    refine ws_cut (fun l S6 => ∃ r, l = [some (.ref 0), some (.ref 1), some (.int (c : Int)), some (mD asks rs), some (.ref n4), some (.int (i : Int)), some (.int (j : Int)), some (rowD r)] ∧ Wk asks rs rs (i, j) r ∧ Gr S5 S6) ?_ ?_
    · simp only [wo_run, ws_seq, ws_if, wt_e, we_op, we_un, we_var, we_c, ws_asg, ws_ret, ws_drop, ws_next, ws_break, ws_cont, wg_name, wg_sub, wg_tup, wg_nil, wg_cons, wg_dput, we_call, we_methL, we_methS, wa_cons, wa_nil, wt_and, wt_or, wt_not, we_and, we_or, we_not, we_if, wo_I0, wo_I, wo_plusAI, wo_plusAT, we_slA, wp_none, wp_some, ex_int1, wo_slT, wo_intAB, wo_times, wo_ixT, wo_ixL, wo_ixAT, wo_ixAL, wo_ixAS, wo_lenT, wo_lenL, wo_lenAT, wo_lenAL, wo_lenAS, wo_abs, wo_intB, wo_tup, wo_lst, wo_tupleL, wo_eqI, wo_eqB, wo_eqSt, wo_neS, wo_neB, wo_neI, wo_is, wo_isnot, wo_str, wo_isI_bl, wo_isI_int, wo_isI_str, wo_isI_tup, wo_isI_non, isI_same, List.map_cons, List.map_nil, List.length_cons, List.length_nil, Nat.reduceAdd, Nat.reduceSub, List.replicate, List.cons_append, List.nil_append, List.getElem?_cons_zero, List.getElem?_cons_succ, List.set_cons_zero, List.set_cons_succ, ex_some, ex_some1, ex_bl, ex_int, at3_0, at3_1, at3_2, at2_0, at2_1, lstOf_last, decide_eq_true_eq, we_get1, we_get2, we_callV, we_fnc, we_dictT, wg_putX]
      refine Wo.mono (first_ok ok hi hj s5 F) ?_
      rintro v S6 ⟨g, r, rfl, hw⟩
      first | exact ⟨(by first | rfl | trivial), r, rfl, hw, g⟩ | exact ⟨r, rfl, hw, g⟩
    rintro l S6 ⟨r, rfl, hw, g6⟩
    refine ws_if' (fun b S7 => b = false ∧ Gr S6 S7) ?_ ?_ ?_
    · simp only [wt_e, we_op, we_un, we_var, we_c, wg_name, wg_sub, wg_tup, wg_nil, wg_cons, wg_dput, we_call, we_methL, we_methS, wa_cons, wa_nil, wt_and, wt_or, wt_not, we_and, we_or, we_not, we_if, wo_I0, wo_I, wo_plusAI, wo_plusAT, we_slA, wp_none, wp_some, ex_int1, wo_slT, wo_intAB, wo_times, wo_ixT, wo_ixL, wo_ixAT, wo_ixAL, wo_ixAS, wo_lenT, wo_lenL, wo_lenAT, wo_lenAL, wo_lenAS, wo_abs, wo_intB, wo_tup, wo_lst, wo_tupleL, wo_eqI, wo_eqB, wo_eqSt, wo_neS, wo_neB, wo_neI, wo_is, wo_isnot, wo_str, wo_isI_bl, wo_isI_int, wo_isI_str, wo_isI_tup, wo_isI_non, isI_same, List.map_cons, List.map_nil, List.length_cons, List.length_nil, Nat.reduceAdd, Nat.reduceSub, List.replicate, List.cons_append, List.nil_append, List.getElem?_cons_zero, List.getElem?_cons_succ, List.set_cons_zero, List.set_cons_succ, ex_some, ex_some1, ex_bl, ex_int, at3_0, at3_1, at3_2, at2_0, at2_1, lstOf_last, decide_eq_true_eq, we_get1, we_get2, we_callV, we_fnc, we_dictT, wg_putX]
      refine Wo.mono (parting_ok ok hi hj) ?_
      rintro v S7 ⟨g7, r', rfl, hw'⟩
      have e := wk_uniq hw' hw
      subst e
      obtain ⟨pd, hz, hpy⟩ := sh_row (S := S7) ok F ⟨hi, hj⟩ hw
      rw [wo_repr_of (hpy S7 (Gr.refl _)) (by omega)]
      rw [wo_repr_of (hpy S7 (Gr.refl _)) (by omega)]
      rw [wo_neS]
      exact ⟨_, rfl, by simp, g7⟩
    · rintro S7 ⟨hb, _⟩; cases hb
    · rintro S7 ⟨_, g7⟩
      simp only [wt_e, we_op, we_un, we_var, we_c, wg_name, wg_sub, wg_tup, wg_nil, wg_cons, wg_dput, we_call, we_methL, we_methS, wa_cons, wa_nil, wt_and, wt_or, wt_not, we_and, we_or, we_not, we_if, wo_I0, wo_I, wo_plusAI, wo_plusAT, we_slA, wp_none, wp_some, ex_int1, wo_slT, wo_intAB, wo_times, wo_ixT, wo_ixL, wo_ixAT, wo_ixAL, wo_ixAS, wo_lenT, wo_lenL, wo_lenAT, wo_lenAL, wo_lenAS, wo_abs, wo_intB, wo_tup, wo_lst, wo_tupleL, wo_eqI, wo_eqB, wo_eqSt, wo_neS, wo_neB, wo_neI, wo_is, wo_isnot, wo_str, wo_isI_bl, wo_isI_int, wo_isI_str, wo_isI_tup, wo_isI_non, isI_same, List.map_cons, List.map_nil, List.length_cons, List.length_nil, Nat.reduceAdd, Nat.reduceSub, List.replicate, List.cons_append, List.nil_append, List.getElem?_cons_zero, List.getElem?_cons_succ, List.set_cons_zero, List.set_cons_succ, ex_some, ex_some1, ex_bl, ex_int, at3_0, at3_1, at3_2, at2_0, at2_1, lstOf_last, decide_eq_true_eq, we_get1, we_get2, we_callV, we_fnc, we_dictT, wg_putX, ws_next]
      exact .inl ⟨.inl (by first | rfl | trivial), _, _, rfl, (g6.trans g7).get s5, p5.gr (g6.trans g7)⟩
  · rintro l S1 _
    simp only [wo_run, ws_seq, ws_if, wt_e, we_op, we_un, we_var, we_c, ws_asg, ws_ret, ws_drop, ws_next, ws_break, ws_cont, wg_name, wg_sub, wg_tup, wg_nil, wg_cons, wg_dput, we_call, we_methL, we_methS, wa_cons, wa_nil, wt_and, wt_or, wt_not, we_and, we_or, we_not, we_if, wo_I0, wo_I, wo_plusAI, wo_plusAT, we_slA, wp_none, wp_some, ex_int1, wo_slT, wo_intAB, wo_times, wo_ixT, wo_ixL, wo_ixAT, wo_ixAL, wo_ixAS, wo_lenT, wo_lenL, wo_lenAT, wo_lenAL, wo_lenAS, wo_abs, wo_intB, wo_tup, wo_lst, wo_tupleL, wo_eqI, wo_eqB, wo_eqSt, wo_neS, wo_neB, wo_neI, wo_is, wo_isnot, wo_str, wo_isI_bl, wo_isI_int, wo_isI_str, wo_isI_tup, wo_isI_non, isI_same, List.map_cons, List.map_nil, List.length_cons, List.length_nil, Nat.reduceAdd, Nat.reduceSub, List.replicate, List.cons_append, List.nil_append, List.getElem?_cons_zero, List.getElem?_cons_succ, List.set_cons_zero, List.set_cons_succ, ex_some, ex_some1, ex_bl, ex_int, at3_0, at3_1, at3_2, at2_0, at2_1, lstOf_last, decide_eq_true_eq, we_get1, we_get2, we_callV, we_fnc, we_dictT, wg_putX]
end M
open PySem PySem.W PyProof.Rows
set_option maxRecDepth 100000 in
set_option maxHeartbeats 0 in
theorem PySem.Challenge.cw_opencells_k06_rows_that_part_holds : PySem.Challenge.rw_opencells_k06_rows_that_part.Holds := by
  w_on; o_law; k_head; (case hw => w_witness2)
  k_fill
  refine G.walk (l := PySem.Challenge.rw_opencells_k06_rows_that_part) rfl rfl (fun w h Y => PySem.W.kIn_of Y) ?F (fun ns hl => M.law_true ns hl)
  case F =>
    intro w mg fa h KX GN hmg
    refine' G.all_mk KX GN hmg ?a0 ?l0 ?c0 ?k0 ?a1 ?l1 ?c1 ?k1 ?a2 ?l2 ?c2 ?k2 ?a3 ?l3 ?c3 ?k3 ?a4 ?l4 ?c4 ?k4 ?a5 ?l5 ?c5 ?k5 ?a6 ?l6 ?c6 ?k6 ?a7 ?l7 ?c7 ?k7 ?a8 ?l8 ?c8 ?k8 ?a9 ?l9 ?c9 ?k9 ?a10 ?l10 ?c10 ?k10 ?a11 ?l11 ?c11 ?k11 ?a12 ?l12 ?c12 ?k12 ?z_len ?z_range ?z_any ?z_abs ?z_tuple ?z_repr
    (case a0 => k_is)
    (case l0 => k_is)
    (case c0 => k_is)
    (case k0 => k_is)
    (case a1 => k_is)
    (case l1 => k_is)
    (case c1 => k_is)
    (case k1 => k_is)
    (case a2 => k_is)
    (case l2 => k_is)
    (case c2 => k_is)
    (case k2 => k_is)
    (case a3 => k_is)
    (case l3 => k_is)
    (case c3 => k_is)
    (case k3 => k_is)
    (case a4 => k_is)
    (case l4 => k_is)
    (case c4 => k_is)
    (case k4 => k_is)
    (case a5 => k_is)
    (case l5 => k_is)
    (case c5 => k_is)
    (case k5 => k_is)
    (case a6 => k_is)
    (case l6 => k_is)
    (case c6 => k_is)
    (case k6 => k_is)
    (case a7 => k_is)
    (case l7 => k_is)
    (case c7 => k_is)
    (case k7 => k_is)
    (case a8 => k_is)
    (case l8 => k_is)
    (case c8 => k_is)
    (case k8 => k_is)
    (case a9 => k_is)
    (case l9 => k_is)
    (case c9 => k_is)
    (case k9 => k_is)
    (case a10 => k_is)
    (case l10 => k_is)
    (case c10 => k_is)
    (case k10 => k_is)
    (case a11 => k_is)
    (case l11 => k_is)
    (case c11 => k_is)
    (case k11 => k_is)
    (case a12 => k_is)
    (case l12 => k_is)
    (case c12 => k_is)
    (case k12 => k_is)
    (case z_len => k_is)
    (case z_range => k_is)
    (case z_any => k_is)
    (case z_abs => k_is)
    (case z_tuple => k_is)
    (case z_repr => k_is)
#print axioms PySem.Challenge.cw_opencells_k06_rows_that_part_holds