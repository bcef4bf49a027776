import PyProof.Rows.All
import Wide.All
import OpenK.AllK
import Wide.FinOn
import Lean
import PyProof.EqAt
import PyProof.EqKinds
import PyProof.TupleCall
import PyProof.ReprLen
import PyProof.ReprRoads
import PyProof.P3Eq
import PyProof.SetRoads
import PyProof.IsRules
import PyProof.ListRange
import PyProof.ConsumeWalk
import PyProof.NeKinds
import PyProof.DictTable
import PySem.Challenge.RW_opencells_k01_machines_of_anything
set_option Elab.async false
set_option maxHeartbeats 4000000
set_option maxRecDepth 100000
set_option linter.unusedSimpArgs false
set_option linter.unusedVariables false
set_option Elab.async false
set_option maxRecDepth 100000
namespace L2
open PySem PySem.Spec PyProof.Rows
abbrev Key := Sum Int Str
def keyIs : Key → Value → Bool
  | .inl k, v => Value.isInt k v
  | .inr x, v => Value.isStrOf x v
def keyH (w : World) : Key → Int
  | .inl k => hashInt k
  | .inr x => hashStr w x
theorem keyIs_shape : ∀ {k : Key} {v : Value}, keyIs k v = true → (∃ i t, k = Sum.inl i ∧ v = Value.int i t) ∨ (∃ x t, k = Sum.inr x ∧ v = Value.str x t)
  | .inl i, v, h => by
    obtain ⟨t, e⟩ := Value.isInt_shape (k := i) (v := v) h
    exact .inl ⟨i, t, rfl, e⟩
  | .inr x, v, h => by
    obtain ⟨t, e⟩ := Value.isStrOf_shape (x := x) (v := v) h
    exact .inr ⟨x, t, rfl, e⟩
theorem keyIs_int (i : Int) (t : Tok) : keyIs (.inl i) (.int i t) = true := by simp [keyIs, Value.isInt]
theorem key_ll (a b : Int) : decide ((Sum.inl a : Key) = Sum.inl b) = (a == b) := by
  by_cases e : a = b
  · subst e; simp
  · have h : ¬ (Sum.inl a : Key) = Sum.inl b := fun q => e (Sum.inl.inj q)
    rw [decide_eq_false h]
    exact (beq_eq_false_iff_ne.mpr e).symm
theorem key_rr (a b : Str) : decide ((Sum.inr a : Key) = Sum.inr b) = decide (a = b) := by
  by_cases e : a = b
  · subst e; simp
  · have h : ¬ (Sum.inr a : Key) = Sum.inr b := fun q => e (Sum.inr.inj q)
    rw [decide_eq_false h, decide_eq_false e]
theorem key_lr (a : Int) (b : Str) : decide ((Sum.inl a : Key) = Sum.inr b) = false := decide_eq_false (fun q => nomatch q)
theorem key_rl (a : Str) (b : Int) : decide ((Sum.inr a : Key) = Sum.inl b) = false := decide_eq_false (fun q => nomatch q)
def mixKind (prog : Program) (w : World) : PySem.KeyKind prog w Key where
  is := keyIs
  hash := keyH w
  inj := fun v a b ha hb => by
    rcases keyIs_shape ha with ⟨i, t, rfl, rfl⟩ | ⟨x, t, rfl, rfl⟩
    · rcases keyIs_shape hb with ⟨j, u, rfl, e⟩ | ⟨y, u, rfl, e⟩
      · injection e with e1 _; rw [e1]
      · exact nomatch e
    · rcases keyIs_shape hb with ⟨j, u, rfl, e⟩ | ⟨y, u, rfl, e⟩
      · exact nomatch e
      · injection e with e1 _; rw [e1]
  byValue := fun k v h => by
    rcases keyIs_shape h with ⟨i, t, rfl, rfl⟩ | ⟨x, t, rfl, rfl⟩ <;> rfl
  pyHash := fun hv h => by
    rcases keyIs_shape hv with ⟨i, t, rfl, rfl⟩ | ⟨x, t, rfl, rfl⟩
    · exact wpAny_pyHash_int h
    · exact wpAny_pyHash_str h
  eqBool := fun hu hv h => by
    rcases keyIs_shape hu with ⟨i, t, rfl, rfl⟩ | ⟨x, t, rfl, rfl⟩
    · rcases keyIs_shape hv with ⟨j, u, rfl, rfl⟩ | ⟨y, u, rfl, rfl⟩
      · rw [key_ll] at h; exact wpAny_eqBool_int h
      · rw [key_lr] at h; exact SeqAt.EqAt.int_str i t y u _ _ _ _ h
    · rcases keyIs_shape hv with ⟨j, u, rfl, rfl⟩ | ⟨y, u, rfl, rfl⟩
      · rw [key_rl] at h; exact SeqAt.EqAt.str_int x t j u _ _ _ _ h
      · rw [key_rr] at h; exact wpAny_eqBool_str h
  «strs» := fun k x t v h => by
    rcases keyIs_shape h with ⟨i, u, rfl, e⟩ | ⟨y, u, rfl, e⟩
    · exact nomatch e
    · injection e with e1 _
      subst e1
      cases v <;> rfl
theorem mixKind_int (prog : Program) (w : World) (i : Int) (t : Tok) : (mixKind prog w).is (.inl i) (.int i t) = true := keyIs_int i t
end L2
namespace L2
open PySem PySem.Spec PyProof.Rows
inductive V where
  | non | bl (b : Bool) | int (i : Int) | str (x : Str) | byt (b : Array UInt8) | flt (b : UInt64) | ref (a : Addr) | ty (n : String)
  deriving DecidableEq
def RelV : V → Value → Prop
  | .non, u => u = Value.none
  | .bl b, u => u = Value.bool b
  | .int i, u => ∃ t, u = Value.int i t
  | .str x, u => ∃ t, u = Value.str x t
  | .byt b, u => ∃ t, u = Value.bytes b t
  | .flt b, u => ∃ t, u = Value.float b t
  | .ref a, u => u = Value.ref a
  | .ty n, u => u = Value.type n
abbrev Vals : List V → List Value → Prop := Paired RelV
theorem Vals.length {xs : List V} {us : List Value} (r : Vals xs us) : xs.length = us.length := Paired.length r
theorem Vals.get : ∀ {xs : List V} {us : List Value} {i : Nat} {x : V}, Vals xs us → xs[i]? = some x → ∃ u, us[i]? = some u ∧ RelV x u
  | _, _, _, _, .nil, e => by simp at e
  | _, _, 0, _, .cons r _, e => by simp at e; subst e; exact ⟨_, rfl, r⟩
  | _, _, i + 1, x, .cons _ t, e => by
    obtain ⟨u, h1, h2⟩ := Vals.get (i := i) (x := x) t (by simpa using e)
    exact ⟨u, by simpa using h1, h2⟩
theorem Vals.set {x : V} {u : Value} (r : RelV x u) : ∀ {xs : List V} {us : List Value} (i : Nat), Vals xs us → Vals (xs.set i x) (us.set i u)
  | _, _, _, .nil => .nil
  | _, _, 0, .cons _ t => .cons r t
  | _, _, i + 1, .cons q t => .cons q (Vals.set r i t)
theorem Vals.append : ∀ {xs ys : List V} {us ws : List Value}, Vals xs us → Vals ys ws → Vals (xs ++ ys) (us ++ ws)
  | _, _, _, _, .nil, s => s
  | _, _, _, _, .cons r t, s => .cons r (Vals.append t s)
theorem Vals.take : ∀ {xs : List V} {us : List Value} (n : Nat), Vals xs us → Vals (xs.take n) (us.take n)
  | _, _, 0, _ => .nil
  | _, _, _ + 1, .nil => .nil
  | _, _, n + 1, .cons r t => .cons r (Vals.take n t)
theorem Vals.drop : ∀ {xs : List V} {us : List Value} (n : Nat), Vals xs us → Vals (xs.drop n) (us.drop n)
  | _, _, 0, r => r
  | _, _, _ + 1, .nil => .nil
  | _, _, n + 1, .cons _ t => Vals.drop n t
def RelO : Option V → Option Value → Prop
  | some v, some u => RelV v u
  | none, none => True
  | _, _ => False
def KV {κ : Type} : List (κ × V) → List (κ × Value) → Prop := Paired fun (p : κ × V) (q : κ × Value) => p.1 = q.1 ∧ RelV p.2 q.2
def kV : Key → V
  | .inl i => .int i
  | .inr x => .str x
inductive HO where
  | lst (xs : List V)
  | tup (xs : List V)
  | dK (kvs : List (Key × V)) | dT (kvs : List (List Key × V))
  | set (S : Int → Bool) (n : Nat)
  | ins (C dx : Addr) (fs : List (Str × V))
  | own (x : Addr)
  | xd (fs : List (Str × V))
  | met (f x : Addr)
  | rng (lo hi : Int)
  | frz (o : Obj) (u : HO)
  | tbl (ps : Array Value)
  | ext (φ : Heap → Prop)
abbrev Hp := Addr → Option HO
def upd (H : Hp) (a : Addr) (o : HO) : Hp := fun b => if b = a then some o else H b
theorem upd_same {H : Hp} {a : Addr} {o : HO} : upd H a o a = some o := by unfold upd; rw [if_pos rfl]
theorem upd_ne {H : Hp} {a b : Addr} {o : HO} (h : b ≠ a) : upd H a o b = H b := by unfold upd; rw [if_neg h]
theorem upd_upd {H : Hp} {a : Addr} {o u : HO} : upd (upd H a o) a u = upd H a u := by
  funext b; unfold upd; split <;> rfl
theorem ne_of {H : Hp} {a b : Addr} {o u : HO} (h : H a = some o) (h' : H b = some u) (d : o ≠ u) : a ≠ b := by
  intro e; subst e; rw [h] at h'; exact d (Option.some.inj h')
theorem ne_of_none {H : Hp} {a b : Addr} {o : HO} (h : H a = some o) (h' : H b = none) : a ≠ b := by
  intro e; subst e; rw [h] at h'; cases h'
section
variable (P : Program) (w : World)
def ObjOk (H : Hp) (h : Heap) (a : Addr) : HO → Prop
  | .lst xs => xs.length ≤ sizeLine ∧ ∃ (its : List Value) (n : Nat), Vals xs its ∧ h.get? a = some { cls := .type "list", data := .seq its.toArray n }
  | .tup xs => xs.length ≤ sizeLine ∧ ∃ its : List Value, Vals xs its ∧ IsTup h a its.toArray
  | .dK kvs => kvs.length ≤ sizeLine ∧ (a == sysModules) = false ∧ ∃ vs, KV kvs vs ∧ h.DictOf (mixKind P w) a vs
  | .dT kvs => kvs.length ≤ sizeLine ∧ (a == sysModules) = false ∧ ∃ xs : List (List Key × Addr × Value),
      Paired (fun (p : List Key × V) (q : List Key × Addr × Value) => p.1 = q.1 ∧ H q.2.1 = some (.tup (p.1.map kV)) ∧ RelV p.2 q.2.2) kvs xs ∧
      ∃ o es ep, h.get? a = some o ∧ o.ExactDict ∧ o.data = .dict es ep ∧ es.toList = xs.map (entryOfKey (tupleKind (mixKind P w))) ∧ (xs.map (·.1)).Nodup
  | .set S n => h.SetOf (intKind P w) a S n
  | .ins C dx fs => H dx = some (.own a) ∧ fs.length ≤ 1000 ∧ dx ≠ a ∧ h.get? a = some (PySem.W.instObj C dx) ∧
      ∃ mA, h.Ns1 dx mA ∧ (∀ f, RelO (fs.lookup f) (mA f)) ∧ PySem.Within mA (fs.map (·.1))
  | .own _ => ∃ o, h.get? a = some o
  | .xd fs => ∃ mA, h.Ns1 a mA ∧ ∀ f, RelO (fs.lookup f) (mA f)
  | .rng lo hi => ∃ t u v, h.get? a = some { cls := .type "range", data := .fields #[.int lo t, .int hi u, .int 1 v] }
  | .frz o u => h.get? a = some o ∧ ObjOk H h a u
  | .tbl ps => h.get? a = some { cls := .none, data := .fields ps }
  | .met f x => h.get? a = some (PySem.W.methodObj (.ref f) (.ref x))
  | .ext φ => φ h ∧ (∃ o, h.get? a = some o) ∧ ∀ h1 h2 : Heap, φ h1 → (∀ o, h1.get? a = some o → h2.get? a = some o) → φ h2
def HOk (H : Hp) (h : Heap) : Prop := ∀ a o, H a = some o → ObjOk P w H h a o
end
section
variable {P : Program} {w : World} {H H' : Hp} {h h' : Heap} {a : Addr} {o : HO}
theorem ObjOk.lt (x : ObjOk P w H h a o) : a < h.objs.size := by
  cases o with
  | lst xs => obtain ⟨_, _, _, _, e⟩ := x; exact Heap.lt_size e
  | tup xs => obtain ⟨_, _, _, p⟩ := x; exact p.lt
  | dK kvs => obtain ⟨_, _, _, _, o, _, _, e, _⟩ := x; exact Heap.lt_size e
  | dT kvs => obtain ⟨_, _, _, _, o, _, _, e, _⟩ := x; exact Heap.lt_size e
  | set S n => obtain ⟨o, _, _, _, e, _⟩ := x; exact Heap.lt_size e
  | ins C dx fs => obtain ⟨_, _, _, e, _⟩ := x; exact Heap.lt_size e
  | own y => obtain ⟨_, e⟩ := x; exact Heap.lt_size e
  | xd fs => obtain ⟨_, ⟨_, _, _, e, _⟩, _⟩ := x; exact Heap.lt_size e
  | rng lo hi => obtain ⟨_, _, _, e⟩ := x; exact Heap.lt_size e
  | frz ob u => obtain ⟨e, _⟩ := x; exact Heap.lt_size e
  | tbl ps => exact Heap.lt_size (show h.get? a = some _ from x)
  | met f y => exact Heap.lt_size (show h.get? a = some _ from x)
  | ext φ => obtain ⟨_, ⟨_, e⟩, _⟩ := x; exact Heap.lt_size e
theorem Paired.mapP {α β : Type} {F G : α → β → Prop} : ∀ {l₁ : List α} {l₂ : List β}, Paired F l₁ l₂ → (∀ a b, F a b → G a b) → Paired G l₁ l₂
  | _, _, .nil, _ => .nil
  | _, _, .cons r t, f => .cons (f _ _ r) (Paired.mapP t f)
theorem ObjOk.stay (x : ObjOk P w H h a o) (k : ∀ b u, (b = a ∨ H b = some (.own a)) → h.get? b = some u → h'.get? b = some u)
    (ho : ∀ b, H b = some (.own a) → H' b = some (.own a)) (ht : ∀ b xs, H b = some (.tup xs) → H' b = some (.tup xs)) : ObjOk P w H' h' a o := by
  induction o with
  | lst xs => obtain ⟨z, its, n, r, e⟩ := x; exact ⟨z, its, n, r, k _ _ (.inl rfl) e⟩
  | tup xs => obtain ⟨z, its, r, ob, e, c⟩ := x; exact ⟨z, its, r, ob, k _ _ (.inl rfl) e, c⟩
  | dK kvs => obtain ⟨z, y, vs, r, ob, es, ep, e, c⟩ := x; exact ⟨z, y, vs, r, ob, es, ep, k _ _ (.inl rfl) e, c⟩
  | dT kvs =>
    obtain ⟨z, y, xs, r, ob, es, ep, e, c⟩ := x
    exact ⟨z, y, xs, Paired.mapP r fun p q z => ⟨z.1, ht _ _ z.2.1, z.2.2⟩, ob, es, ep, k _ _ (.inl rfl) e, c⟩
  | set S n => obtain ⟨ob, es, ep, t, e, c⟩ := x; exact ⟨ob, es, ep, t, k _ _ (.inl rfl) e, c⟩
  | ins C dx fs =>
    obtain ⟨d, z, ne, e, mA, ⟨od, es, ep, e2, c⟩, r⟩ := x
    exact ⟨ho _ d, z, ne, k _ _ (.inl rfl) e, mA, ⟨od, es, ep, k _ _ (.inr d) e2, c⟩, r⟩
  | own y => obtain ⟨ob, e⟩ := x; exact ⟨ob, k _ _ (.inl rfl) e⟩
  | xd fs => obtain ⟨mA, ⟨od, es, ep, e, c⟩, r⟩ := x; exact ⟨mA, ⟨od, es, ep, k _ _ (.inl rfl) e, c⟩, r⟩
  | rng lo hi => obtain ⟨t, u, v, e⟩ := x; exact ⟨t, u, v, k _ _ (.inl rfl) e⟩
  | frz ob u ih => obtain ⟨e, q⟩ := x; exact ⟨k _ _ (.inl rfl) e, ih q⟩
  | tbl ps =>
    have e : h.get? a = some { cls := .none, data := .fields ps } := x
    show h'.get? a = some { cls := .none, data := .fields ps }
    exact k a _ (.inl rfl) e
  | met f y =>
    have e : h.get? a = some (PySem.W.methodObj (.ref f) (.ref y)) := x
    show h'.get? a = some (PySem.W.methodObj (.ref f) (.ref y))
    exact k a _ (.inl rfl) e
  | ext φ => obtain ⟨p, ⟨o, e⟩, st⟩ := x; exact ⟨st _ _ p fun o q => k _ _ (.inl rfl) q, ⟨o, k _ _ (.inl rfl) e⟩, st⟩
theorem HOk.lt (x : HOk P w H h) (e : H a = some o) : a < h.objs.size := (x a o e).lt
theorem HOk.fresh (x : HOk P w H h) (e : h.objs.size ≤ a) : H a = none := by
  cases q : H a with
  | none => rfl
  | some u => exact absurd (Nat.lt_of_lt_of_le (x.lt q) e) (Nat.lt_irrefl _)
theorem HOk.kept (x : HOk P w H h) (k : ∀ b u, h.get? b = some u → h'.get? b = some u) : HOk P w H h' := fun a o e =>
  (x a o e).stay (fun b u _ q => k b u q) (fun _ q => q) fun _ _ q => q
theorem HOk.laid (x : HOk P w H h) (k : ∀ b u, h.get? b = some u → h'.get? b = some u) (hp : h.objs.size ≤ a) (new : ObjOk P w (upd H a o) h' a o) : HOk P w (upd H a o) h' := fun b u e => by
  have hn := x.fresh hp
  by_cases hb : b = a
  · subst hb; rw [upd_same] at e; cases e; exact new
  · rw [upd_ne hb] at e
    exact (x b u e).stay (fun c v _ q => k c v q) (fun c q => by rw [upd_ne (ne_of_none q hn)]; exact q) fun c xs q => by rw [upd_ne (ne_of_none q hn)]; exact q
end
def Rd (H : Hp) (a : Addr) (u : HO) : Prop := H a = some u ∨ ∃ o, H a = some (.frz o u)
theorem Rd.of {H : Hp} {a : Addr} {u : HO} (h : H a = some u) : Rd H a u := .inl h
theorem Rd.ok {P : Program} {w : World} {H : Hp} {h : Heap} {a : Addr} {u : HO} (r : Rd H a u) (x : HOk P w H h) : ObjOk P w H h a u := by
  rcases r with r | ⟨o, r⟩
  · exact x a u r
  · obtain ⟨_, q⟩ := x a _ r
    exact q
def Mut : Option HO → Prop
  | some (.lst _) => True
  | some (.dK _) => True
  | some (.dT _) => True
  | some (.set _ _) => True
  | some (.ins _ _ _) => True
  | some (.ext _) => True
  | _ => False
section
variable {P : Program} {w : World} {H : Hp} {h h' : Heap} {x e : Addr} {o' : HO}
theorem HOk.write (ok : HOk P w H h) (mu : Mut (H x)) (he : e = x ∨ H e = some (.own x)) (k : ∀ b u, b ≠ e → h.get? b = some u → h'.get? b = some u) (heo : ∃ u, h'.get? e = some u)
    (new : ObjOk P w (upd H x o') h' x o') : HOk P w (upd H x o') h' := fun b u q => by
  have nown : ∀ c y, H c = some (.own y) → c ≠ x := fun c y r z => by subst z; rw [r] at mu; exact mu
  have ntup : ∀ c xs, H c = some (.tup xs) → c ≠ x := fun c xs r z => by subst z; rw [r] at mu; exact mu
  by_cases hb : b = x
  · subst hb; rw [upd_same] at q; cases q; exact new
  · rw [upd_ne hb] at q
    by_cases hbe : b = e
    · have q' : H b = some (.own x) := by
        rcases he with z | z
        · exact absurd (hbe.trans z) hb
        · rw [hbe]; exact z
      rw [q] at q'; cases q'
      obtain ⟨v, hv⟩ := heo
      exact ⟨v, by rw [hbe]; exact hv⟩
    · refine (ok b u q).stay (fun c v hc r => k c v ?_ r) (fun c r => by rw [upd_ne (nown c b r)]; exact r) fun c xs r => by rw [upd_ne (ntup c xs r)]; exact r
      rcases hc with rfl | hc
      · exact hbe
      · rintro rfl
        rcases he with z | z
        · exact nown c b hc z
        · rw [hc] at z; cases z; exact hb rfl
end
structure Un (fs ex : List Addr) (H H' : Hp) (h h' : Heap) : Prop where
  keep : ∀ b o, h.get? b = some o → H b = none → b ∉ fs → b ∉ ex → h'.get? b = some o
  slot : ∀ b o, h.get? b = some o → H b = none → b ∈ fs → b ∉ ex → ∃ sl, h'.get? b = some { o with slots := sl }
  free : ∀ b o, h.get? b = some o → H b = none → b ∉ ex → H' b = none
  there : ∀ b o, h.get? b = some o → b ∉ ex → ∃ o', h'.get? b = some o'
  tups : ∀ b xs, H b = some (.tup xs) → H' b = some (.tup xs)
  frzs : ∀ b o u, H b = some (.frz o u) → H' b = some (.frz o u)
  tbls : ∀ b ps, H b = some (.tbl ps) → ∃ more, H' b = some (.tbl (ps ++ more))
section
variable {fs fs' ex ex' : List Addr} {H H1 H2 : Hp} {h h1 h2 h' : Heap} {a x e : Addr} {o : HO}
theorem Un.any (u : Un fs ex H H1 h h1) {b : Addr} {ob : Obj} (q : h.get? b = some ob) (n : H b = none) (hx : b ∉ ex) : ∃ sl, h1.get? b = some { ob with slots := sl } := by
  by_cases hb : b ∈ fs
  · exact u.slot b ob q n hb hx
  · exact ⟨ob.slots, u.keep b ob q n hb hx⟩
theorem Un.trans (a : Un fs ex H H1 h h1) (b : Un fs ex H1 H2 h1 h2) : Un fs ex H H2 h h2 where
  keep := fun c ob q n hc hx => b.keep c ob (a.keep c ob q n hc hx) (a.free c ob q n hx) hc hx
  slot := fun c ob q n hc hx => by
    obtain ⟨sl, e1⟩ := a.slot c ob q n hc hx
    obtain ⟨sl', e2⟩ := b.slot c _ e1 (a.free c ob q n hx) hc hx
    exact ⟨sl', e2⟩
  free := fun c ob q n hx => by
    obtain ⟨o', e1⟩ := a.there c ob q hx
    exact b.free c o' e1 (a.free c ob q n hx) hx
  there := fun c ob q hx => by
    obtain ⟨o', e1⟩ := a.there c ob q hx
    exact b.there c o' e1 hx
  tups := fun c xs q => b.tups c xs (a.tups c xs q)
  frzs := fun c ob xs q => b.frzs c ob xs (a.frzs c ob xs q)
  tbls := fun c ps q => by
    obtain ⟨m1, e1⟩ := a.tbls c ps q
    obtain ⟨m2, e2⟩ := b.tbls c _ e1
    exact ⟨m1 ++ m2, by rw [e2, Array.append_assoc]⟩
theorem Un.kept (k : ∀ b u, h.get? b = some u → h'.get? b = some u) : Un fs ex H H h h' :=
  ⟨fun b ob q _ _ _ => k b ob q, fun b ob q _ _ _ => ⟨ob.slots, k b ob q⟩, fun _ _ _ n _ => n, fun b ob q _ => ⟨ob, k b ob q⟩, fun _ _ q => q, fun _ _ _ q => q, fun _ ps q => ⟨#[], by rw [q]; simp⟩⟩
theorem Un.refl : Un fs ex H H h h := Un.kept fun _ _ q => q
theorem Un.laid (k : ∀ b u, h.get? b = some u → h'.get? b = some u) (hp : h.objs.size ≤ a) (hn : H a = none) : Un fs ex H (upd H a o) h h' where
  keep := fun b u q _ _ _ => k b u q
  slot := fun b u q _ _ _ => ⟨u.slots, k b u q⟩
  free := fun b u q n _ => by rw [upd_ne (Nat.ne_of_lt (Nat.lt_of_lt_of_le (Heap.lt_size q) hp))]; exact n
  there := fun b u q _ => ⟨u, k b u q⟩
  tups := fun b xs q => by rw [upd_ne (ne_of_none q hn)]; exact q
  frzs := fun b u xs q => by rw [upd_ne (ne_of_none q hn)]; exact q
  tbls := fun b ps q => ⟨#[], by rw [upd_ne (ne_of_none q hn), q]; simp⟩
theorem Un.write (mu : Mut (H x)) (he : e = x ∨ H e = some (.own x)) (k : ∀ b u, b ≠ e → h.get? b = some u → h'.get? b = some u) (heo : ∃ u, h'.get? e = some u) : Un fs ex H (upd H x o) h h' := by
  have hx : ∀ b, H b = none → b ≠ x := fun b n z => by subst z; rw [n] at mu; exact mu
  have hb : ∀ b, H b = none → b ≠ e := fun b n z => by
    subst z
    rcases he with r | r
    · exact hx b n r
    · rw [n] at r; cases r
  have hm : ∀ b u, H b = some u → ¬ Mut (some u) → b ≠ x := fun b u q nm z => by subst z; rw [q] at mu; exact nm mu
  refine ⟨fun b u q n _ _ => k b u (hb b n) q, fun b u q n _ _ => ⟨u.slots, k b u (hb b n) q⟩, fun b u q n _ => by rw [upd_ne (hx b n)]; exact n, fun b u q _ => ?_,
    fun b xs q => by rw [upd_ne (hm b _ q fun z => z)]; exact q, fun b u xs q => by rw [upd_ne (hm b _ q fun z => z)]; exact q, fun b ps q => ⟨#[], by rw [upd_ne (hm b _ q fun z => z), q]; simp⟩⟩
  by_cases hbe : b = e
  · subst hbe; exact heo
  · exact ⟨u, k b u hbe q⟩
theorem Un.mono (u : Un fs ex H H1 h h1) (hs : ∀ b ∈ fs, b ∈ fs') (hx : ∀ b ∈ ex, b ∈ ex') : Un fs' ex' H H1 h h1 :=
  ⟨fun b ob q n hb he => u.keep b ob q n (fun z => hb (hs b z)) fun z => he (hx b z), fun _ _ q n _ he => u.any q n fun z => he (hx _ z), fun b ob q n he => u.free b ob q n fun z => he (hx b z), fun b ob q he => u.there b ob q fun z => he (hx b z), u.tups, u.frzs, u.tbls⟩
end
def trk (h : Heap) (H : Hp) : List Addr := (List.range h.objs.size).filter fun a => (H a).isSome
def hidT (h : Heap) (H : Hp) : Heap := PySem.W.hideAll h (trk h H)
theorem hidT_size (h : Heap) (H : Hp) : (hidT h H).objs.size = h.objs.size := PySem.W.hideAll_size _ _
theorem hidT_get {h : Heap} {H : Hp} {b : Addr} {o : Obj} (e : h.get? b = some o) (n : H b = none) : (hidT h H).get? b = some o :=
  PySem.W.hideAll_get _ e fun hm => by
    have q : (H b).isSome = true := (List.mem_filter.mp hm).2
    rw [n] at q; simp at q
theorem of_hidT {h : Heap} {H : Hp} {b : Addr} {o : Obj} (e : (hidT h H).get? b = some o) : h.get? b = some o ∧ H b = none := by
  have e' : h.get? b = some o := PySem.W.of_hideAll (trk h H) e
  refine ⟨e', ?_⟩
  cases q : H b with
  | none => rfl
  | some x =>
    have hm : b ∈ trk h H := List.mem_filter.mpr ⟨List.mem_range.mpr (Heap.lt_size e'), by simp [q]⟩
    have z : (hidT h H).get? b = none := PySem.W.hideAll_none (trk h H) hm
    rw [z] at e; cases e
def allNews (g h : Heap) (L : Addr) : List (Addr × Obj) := (List.range h.objs.size).filterMap fun a => if a = L ∨ (g.get? a).isSome = true then none else (h.get? a).map fun o => (a, o)
def rest (g h : Heap) (L d : Addr) : List (Addr × Obj) := (allNews g h L).filter fun p => decide (p.1 ≠ d)
end L2
namespace L2
open PySem PySem.Spec PyProof.Rows
structure Mod (K : PySem.W.Frag) (mg : Str → Option Value) (base : Heap) : Prop where
  kin : K.In base
  glob : base.Ns mainGlobals mg
  blt : ∃ mb, base.Ns builtinsNs mb ∧ ∀ x : Str, x ≠ "__name__" → mb x = bootBuiltins x
  nolimit : base.NoLimit
structure Cx where
  prog : Program
  w : World
  K : PySem.W.Frag
  mg : Str → Option Value
  base : Heap
  A : Around
  N : List Str
  s₀ : Shared
  H₀ : Hp
  env : Env
  outer : List Env
  stack : List Env
  ex : List Addr
  fn : Str → Bool
  calm : Bool
  pn : List (Addr × Obj)
  xe : Value → Shared → Prop
def frs (l : List Env) : List Addr := l.filterMap (·.frame)
abbrev Cx.fs (X : Cx) : List Addr := frs X.outer
def Vis (sc : Scope) (x : Str) : Prop := sc.names.lookup x = some .local ∨ sc.names.lookup x = some .cell ∨ sc.names.lookup x = some .free
def Loc (sc : Scope) (x : Str) : Prop := sc.names.lookup x = some .local ∨ sc.names.lookup x = some .cell
def Look (env : Env) (h : Heap) (m : Str → Option Value) (x : Str) (u : Value) : Prop :=
  (env.kindOf x = some .local ∧ m x = some u) ∨ ((env.kindOf x = some .cell ∨ env.kindOf x = some .free) ∧ ∃ c, env.cells.lookup x = some c ∧ h.IsCell c (some u))
structure Cx.Ok (X : Cx) : Prop where
  mod : Mod X.K X.mg X.base
  kind : X.env.scope.kind = .function
  glob : X.env.globals = mainGlobals
  blt : X.env.builtins = builtinsNs
  above : X.s₀.heap.objs.size ≤ X.env.locals
  inj : ∀ x y c, X.env.cells.lookup x = some c → X.env.cells.lookup y = some c → x = y
  has : ∀ x, (X.env.kindOf x = some .cell ∨ X.env.kindOf x = some .free) → ∃ c, X.env.cells.lookup x = some c
  cab : ∀ x c, X.fn x = true → X.env.cells.lookup x = some c → X.s₀.heap.objs.size ≤ c
  hd : X.calm = true → X.A.handled = none
  frames : X.A.frames = some X.stack
  stk : X.stack = X.outer ∨ (X.stack = X.env :: X.outer ∧ X.env.frame = some X.env.locals)
  exf : ∀ b ∈ X.ex, b ≠ X.env.locals ∧ ∀ x c, X.env.cells.lookup x = some c → c ≠ b
  bs : ∀ b o, X.base.get? b = some o → X.s₀.heap.get? b = some o ∧ X.H₀ b = none
  bsz : X.base.objs.size ≤ X.s₀.heap.objs.size
  noex : ∀ b o, X.base.get? b = some o → b ∉ X.ex
  exfs : ∀ b ∈ X.ex, b ∉ X.fs
  funs : X.s₀.heap.FunFrames X.base X.outer
  frf : ∀ b ∈ X.fs, X.H₀ b = none
structure Inv (X : Cx) (pins : List (Addr × Obj)) (σ : List (Option V)) (H : Hp) (s : Shared) : Prop where
  ok : X.Ok
  os : s.os = X.s₀.os
  bare : AllBare s.gens
  base : Un X.fs X.ex X.H₀ H X.s₀.heap s.heap
  loc : ∃ m, s.heap.Ns X.env.locals m ∧ ∀ (i : Nat) (x : Str) (v : V), X.N[i]? = some x → σ[i]? = some (some v) → Vis X.env.scope x → ∃ u, RelV v u ∧ Look X.env s.heap m x u
  cell : ∀ x c, X.env.cells.lookup x = some c → ∃ v, s.heap.IsCell c v
  free : H X.env.locals = none
  freeC : ∀ x c, X.env.cells.lookup x = some c → H c = none
  pin : ∀ p ∈ X.pn ++ pins, s.heap.get? p.1 = some p.2 ∧ H p.1 = none ∧ p.1 ≠ X.env.locals ∧ p.1 ∉ X.fs ∧ ∀ v, p.2.data ≠ .cell v
  hok : HOk X.prog X.w H s.heap
  len : σ.length = X.N.length
section
variable {X : Cx} {pins : List (Addr × Obj)} {σ : List (Option V)} {H H' : Hp} {s : Shared} {h' : Heap}
theorem Cx.Ok.nofr (ok : X.Ok) {b : Addr} {o : Obj} (e : X.base.get? b = some o) : b ∉ X.fs := fun hb => by
  have := (ok.funs.mem hb).1
  rw [e] at this; cases this
theorem Inv.bs (I : Inv X pins σ H s) : ∀ b o, X.base.get? b = some o → s.heap.get? b = some o ∧ H b = none := fun b o e =>
  ⟨I.base.keep b o (I.ok.bs b o e).1 (I.ok.bs b o e).2 (I.ok.nofr e) (I.ok.noex b o e), I.base.free b o (I.ok.bs b o e).1 (I.ok.bs b o e).2 (I.ok.noex b o e)⟩
theorem Inv.bk (I : Inv X pins σ H s) : ∀ b o, X.base.get? b = some o → s.heap.get? b = some o := fun b o e => (I.bs b o e).1
theorem Inv.mod (I : Inv X pins σ H s) : Mod X.K X.mg X.base := I.ok.mod
theorem Inv.kIn (I : Inv X pins σ H s) : X.K.In s.heap := I.ok.mod.kin.keeps I.bk
theorem Inv.nolimit (I : Inv X pins σ H s) : s.heap.NoLimit := I.ok.mod.nolimit.keeps I.bk
theorem Inv.lt (I : Inv X pins σ H s) : X.env.locals < s.heap.objs.size := let ⟨_, hn, _⟩ := I.loc; hn.lt
theorem Inv.sz (I : Inv X pins σ H s) : X.s₀.heap.objs.size ≤ s.heap.objs.size := Nat.le_trans I.ok.above (Nat.le_of_lt I.lt)
theorem Inv.nofs (I : Inv X pins σ H s) {a : Addr} (h : s.heap.objs.size ≤ a) : a ∉ X.fs := fun hb => by
  obtain ⟨_, o, ho, _⟩ := I.ok.funs.mem hb
  exact absurd (Nat.lt_of_lt_of_le (Heap.lt_size ho) (Nat.le_trans I.sz h)) (Nat.lt_irrefl _)
theorem Inv.cne (I : Inv X pins σ H s) : ∀ x c, X.env.cells.lookup x = some c → c ≠ X.env.locals := fun x c e z => by
  obtain ⟨v, o, ho, hd⟩ := I.cell x c e
  obtain ⟨m, ⟨o', es, ep, ho', hd', _⟩, _⟩ := I.loc
  rw [z, ho'] at ho; cases ho; rw [hd'] at hd; cases hd
theorem Inv.funs (I : Inv X pins σ H s) : s.heap.FunFrames X.base X.outer := by
  have all : ∀ (l : List Env), (∀ b ∈ frs l, b ∈ X.fs) → X.s₀.heap.FunFrames X.base l → s.heap.FunFrames X.base l := by
    intro l
    induction l with
    | nil => intro _ _; trivial
    | cons env r ih =>
      intro hs hl
      obtain ⟨hk, ⟨L, o, hf, hn, ho, hd⟩, hr⟩ := hl
      have hL : L ∈ X.fs := hs L (by unfold frs; rw [List.filterMap_cons, hf]; exact List.mem_cons_self)
      obtain ⟨sl, e⟩ := I.base.slot L o ho (I.ok.frf L hL) hL fun z => I.ok.exfs L z hL
      exact ⟨hk, ⟨L, _, hf, hn, e, hd⟩, ih (fun b hb => hs b (by unfold frs; rw [List.filterMap_cons, hf]; exact List.mem_cons_of_mem _ hb)) hr⟩
  exact all X.outer (fun _ hb => hb) I.ok.funs
theorem Inv.stack (I : Inv X pins σ H s) : s.heap.FunFrames X.base X.stack := by
  rcases I.ok.stk with e | ⟨e, hf⟩
  · rw [e]; exact I.funs
  · rw [e]
    obtain ⟨m, hn, _⟩ := I.loc
    refine .cons (by rw [I.ok.kind]; decide) hf hn ?_ I.funs
    exact Heap.get?_none_of_le (Nat.le_trans I.ok.bsz I.ok.above)
theorem Inv.stkSub (I : Inv X pins σ H s) : ∀ b ∈ frs X.stack, b ∈ X.env.locals :: X.fs := fun b hb => by
  rcases I.ok.stk with e | ⟨e, hf⟩
  · rw [e] at hb; exact List.mem_cons_of_mem _ hb
  · rw [e] at hb
    unfold frs at hb
    rw [List.filterMap_cons, hf] at hb
    exact hb
theorem Inv.stkFree (I : Inv X pins σ H s) : ∀ b ∈ frs X.stack, H b = none := fun b hb => by
  rcases List.mem_cons.mp (I.stkSub b hb) with e | hb
  · rw [e]; exact I.free
  · obtain ⟨_, o, ho, _⟩ := I.ok.funs.mem hb
    exact I.base.free b o ho (I.ok.frf b hb) fun z => I.ok.exfs b z hb
theorem Inv.step {g' : Array GenState} {t' : Nat} {d' : Drawn} {ch : List Addr} (I : Inv X pins σ H s)
    (hch : ∀ b ∈ ch, (b ∈ X.ex ∨ X.s₀.heap.objs.size ≤ b) ∧ b ≠ X.env.locals ∧ (∀ x c, X.env.cells.lookup x = some c → c ≠ b) ∧ ∀ p ∈ X.pn ++ pins, p.1 ≠ b)
    (keep : ∀ b o, b ≠ X.env.locals → b ∉ X.fs → b ∉ ch → s.heap.get? b = some o → H b = none → h'.get? b = some o)
    (slot : ∀ b o, b ≠ X.env.locals → b ∈ X.fs → b ∉ ch → s.heap.get? b = some o → H b = none → ∃ sl, h'.get? b = some { o with slots := sl }) (free : ∀ b o, b ∉ ch → s.heap.get? b = some o → H b = none → H' b = none)
    (there : ∀ b o, b ∉ ch → s.heap.get? b = some o → ∃ o', h'.get? b = some o')
    (tups : ∀ b xs, H b = some (.tup xs) → H' b = some (.tup xs)) (frzs : ∀ b o u, H b = some (.frz o u) → H' b = some (.frz o u)) (tbls : ∀ b ps, H b = some (.tbl ps) → ∃ more, H' b = some (.tbl (ps ++ more)))
    (ns : ∀ m, s.heap.Ns X.env.locals m → h'.Ns X.env.locals m) (hok : HOk X.prog X.w H' h') (hg : AllBare g') :
    Inv X pins σ H' { s with heap := h', gens := g', drawn := d', toks := t' } := by
  have neL : ∀ b o, X.s₀.heap.get? b = some o → b ≠ X.env.locals := fun b o e => Nat.ne_of_lt (Nat.lt_of_lt_of_le (Heap.lt_size e) I.ok.above)
  have neC : ∀ b o, X.s₀.heap.get? b = some o → b ∉ X.ex → b ∉ ch := fun b o e hx hb => by
    rcases (hch b hb).1 with z | z
    · exact hx z
    · exact absurd (Nat.lt_of_lt_of_le (Heap.lt_size e) z) (Nat.lt_irrefl _)
  have cellK : ∀ x c, X.env.cells.lookup x = some c → ∀ v, s.heap.IsCell c v → h'.IsCell c v := fun x c e v ⟨o, ho, hd⟩ => by
    have nch : c ∉ ch := fun z => (hch c z).2.2.1 x c e rfl
    by_cases hc : c ∈ X.fs
    · obtain ⟨sl, q⟩ := slot c o (I.cne x c e) hc nch ho (I.freeC x c e)
      exact ⟨_, q, hd⟩
    · exact ⟨o, keep c o (I.cne x c e) hc nch ho (I.freeC x c e), hd⟩
  refine ⟨I.ok, I.os, hg, ⟨fun b o e n hb hx => ?_, fun b o e n hb hx => ?_, fun b o e n hx => ?_, fun b o e hx => ?_, fun b xs e => tups b xs (I.base.tups b xs e), fun b o xs e => frzs b o xs (I.base.frzs b o xs e), fun b ps e => ?_⟩, ?_, fun x c e => ?_, ?_, fun x c e => ?_, fun p hp => ?_, hok, I.len⟩
  · exact keep b o (neL b o e) hb (neC b o e hx) (I.base.keep b o e n hb hx) (I.base.free b o e n hx)
  · obtain ⟨sl, e1⟩ := I.base.slot b o e n hb hx
    obtain ⟨sl', e2⟩ := slot b _ (neL b o e) hb (neC b o e hx) e1 (I.base.free b o e n hx)
    exact ⟨sl', e2⟩
  · obtain ⟨o', e1⟩ := I.base.there b o e hx
    exact free b o' (neC b o e hx) e1 (I.base.free b o e n hx)
  · obtain ⟨o', e1⟩ := I.base.there b o e hx
    exact there b o' (neC b o e hx) e1
  · obtain ⟨m1, e1⟩ := I.base.tbls b ps e
    obtain ⟨m2, e2⟩ := tbls b _ e1
    exact ⟨m1 ++ m2, by rw [e2, Array.append_assoc]⟩
  · obtain ⟨m, hn, hl⟩ := I.loc
    refine ⟨m, ns m hn, fun i x v e1 e2 e3 => ?_⟩
    obtain ⟨u, r, l⟩ := hl i x v e1 e2 e3
    refine ⟨u, r, ?_⟩
    rcases l with l | ⟨k, c, e, z⟩
    · exact .inl l
    · exact .inr ⟨k, c, e, cellK x c e _ z⟩
  · obtain ⟨v, z⟩ := I.cell x c e
    exact ⟨v, cellK x c e v z⟩
  · obtain ⟨m, ⟨o, _, _, ho, _⟩, _⟩ := I.loc
    exact free _ o (fun z => (hch _ z).2.1 rfl) ho I.free
  · obtain ⟨v, o, ho, hd⟩ := I.cell x c e
    exact free c o (fun z => (hch c z).2.2.1 x c e rfl) ho (I.freeC x c e)
  · obtain ⟨e, n, ne, nf, d⟩ := I.pin p hp
    have nch : p.1 ∉ ch := fun z => (hch p.1 z).2.2.2 p hp rfl
    exact ⟨keep p.1 p.2 ne nf nch e n, free p.1 p.2 nch e n, ne, nf, d⟩
theorem Inv.un {t' : Nat} (I : Inv X pins σ H s) (u : Un X.fs [] H H' s.heap h') (hok : HOk X.prog X.w H' h') : Inv X pins σ H' { s with heap := h', toks := t' } := by
  obtain ⟨m, ⟨o, es, ep, ho, r⟩, _⟩ := id I.loc
  obtain ⟨sl, hL⟩ := u.any ho I.free (by simp)
  exact I.step (g' := s.gens) (d' := s.drawn) (ch := []) (fun _ z => nomatch z) (fun b o _ hb _ e n => u.keep b o e n hb (by simp)) (fun b o _ hb _ e n => u.slot b o e n hb (by simp)) (fun b o _ e n => u.free b o e n (by simp)) (fun b o _ e => u.there b o e (by simp)) u.tups u.frzs u.tbls (fun m' hm => by
    obtain ⟨o', es', ep', ho', r'⟩ := hm
    rw [ho] at ho'; cases ho'
    exact ⟨_, es', ep', hL, r'⟩) hok I.bare
theorem Inv.call {g' : Array GenState} {t' : Nat} {d' : Drawn} {ch : List Addr} (I : Inv X pins σ H s) (u : Un (frs X.stack) ch H H' s.heap h') (hok : HOk X.prog X.w H' h') (hg : AllBare g')
    (hch : ∀ b ∈ ch, (b ∈ X.ex ∨ X.s₀.heap.objs.size ≤ b) ∧ b ≠ X.env.locals ∧ (∀ x c, X.env.cells.lookup x = some c → c ≠ b) ∧ ∀ p ∈ X.pn ++ pins, p.1 ≠ b) :
    Inv X pins σ H' { s with heap := h', gens := g', drawn := d', toks := t' } := by
  obtain ⟨m, ⟨o, es, ep, ho, r⟩, _⟩ := id I.loc
  obtain ⟨sl, hL⟩ := u.any ho I.free fun z => (hch _ z).2.1 rfl
  exact I.step (ch := ch) hch (fun b o hL hb hc e n => u.keep b o e n (fun z => (List.mem_cons.mp (I.stkSub b z)).elim hL hb) hc) (fun b o _ _ hc e n => u.any e n hc) (fun b o hc e n => u.free b o e n hc) (fun b o hc e => u.there b o e hc) u.tups u.frzs u.tbls (fun m' hm => by
    obtain ⟨o', es', ep', ho', r'⟩ := hm
    rw [ho] at ho'; cases ho'
    exact ⟨_, es', ep', hL, r'⟩) hok hg
theorem Inv.turned {t' : Nat} {it : Addr} (I : Inv X pins σ H s) (k : ∀ b o, b ≠ it → s.heap.get? b = some o → h'.get? b = some o) (hn : H it = none) (hL : it ≠ X.env.locals)
    (h1 : it ∈ X.ex ∨ X.s₀.heap.objs.size ≤ it) (h2 : ∀ x c, X.env.cells.lookup x = some c → c ≠ it) (h3 : ∀ p ∈ X.pn ++ pins, p.1 ≠ it) : Inv X pins σ H { s with heap := h', toks := t' } := by
  have nit : ∀ b u, H b = some u → b ≠ it := fun b u e z => by rw [z, hn] at e; cases e
  refine I.step (g' := s.gens) (d' := s.drawn) (ch := [it]) (fun b hb => ?_) (fun b o _ _ hc e _ => k b o (fun z => hc (by simp [z])) e) (fun b o _ _ hc e _ => ⟨o.slots, k b o (fun z => hc (by simp [z])) e⟩) (fun _ _ _ _ n => n)
    (fun b o hc e => ⟨o, k b o (fun z => hc (by simp [z])) e⟩) (fun _ _ e => e) (fun _ _ _ e => e) (fun b ps e => ⟨#[], by rw [e]; simp⟩) (fun m hm => ?_) (fun b u e => ?_) I.bare
  · have e : b = it := by simpa using hb
    subst e
    exact ⟨h1, hL, h2, h3⟩
  · obtain ⟨o, es, ep, ho, r⟩ := hm
    exact ⟨o, es, ep, k _ o (Ne.symm hL) ho, r⟩
  · refine (I.hok b u e).stay (fun c v hc q => k c v ?_ q) (fun _ q => q) fun _ _ q => q
    rcases hc with z | z
    · rw [z]; exact nit b u e
    · exact nit c _ z
theorem Inv.tok (I : Inv X pins σ H s) (t : Nat) : Inv X pins σ H { s with toks := t } := I.un (h' := s.heap) (t' := t) Un.refl I.hok
theorem Inv.kept {t' : Nat} (I : Inv X pins σ H s) (k : ∀ b u, s.heap.get? b = some u → h'.get? b = some u) : Inv X pins σ H { s with heap := h', toks := t' } := I.un (Un.kept k) (I.hok.kept k)
theorem Inv.laid {a : Addr} {o : HO} {t' : Nat} (I : Inv X pins σ H s) (k : ∀ b u, s.heap.get? b = some u → h'.get? b = some u) (hp : s.heap.objs.size ≤ a) (new : ObjOk X.prog X.w (upd H a o) h' a o) :
    Inv X pins σ (upd H a o) { s with heap := h', toks := t' } := I.un (Un.laid k hp (I.hok.fresh hp)) (I.hok.laid k hp new)
theorem Inv.write {x e : Addr} {o : HO} {t' : Nat} (I : Inv X pins σ H s) (mu : Mut (H x)) (he : e = x ∨ H e = some (.own x)) (k : ∀ b u, b ≠ e → s.heap.get? b = some u → h'.get? b = some u) (heo : ∃ u, h'.get? e = some u)
    (new : ObjOk X.prog X.w (upd H x o) h' x o) : Inv X pins σ (upd H x o) { s with heap := h', toks := t' } := I.un (Un.write mu he k heo) (I.hok.write mu he k heo new)
theorem Inv.pins_of {pins' : List (Addr × Obj)} (I : Inv X pins σ H s) (h : ∀ p ∈ pins', s.heap.get? p.1 = some p.2 ∧ H p.1 = none ∧ p.1 ≠ X.env.locals ∧ p.1 ∉ X.fs ∧ ∀ v, p.2.data ≠ .cell v) : Inv X pins' σ H s :=
  ⟨I.ok, I.os, I.bare, I.base, I.loc, I.cell, I.free, I.freeC, fun p hp => (List.mem_append.mp hp).elim (fun z => I.pin p (List.mem_append_left _ z)) (h p), I.hok, I.len⟩
theorem nodup_ix {N : List Str} (hN : N.Nodup) {i j : Nat} {x : Str} (a : N[i]? = some x) (b : N[j]? = some x) : i = j := by
  obtain ⟨h1, e1⟩ := List.getElem?_eq_some_iff.mp a
  obtain ⟨h2, e2⟩ := List.getElem?_eq_some_iff.mp b
  exact (List.getElem_inj hN).mp (e1.trans e2.symm)
theorem store_ok2 {M : Model} {A : Around} {E : Value → Shared → Prop} {i : Nat} {x : Str} {v : V} {u : Value} {Q : Unit → Shared → Prop} (I : Inv X pins σ H s) (hN : X.N.Nodup) (hi : X.N[i]? = some x) (hx : Loc X.env.scope x) (r : RelV v u)
    (h : ∀ s', Inv X pins (σ.set i (some v)) H s' → (∃ a, Heap.SameBut a s.heap s'.heap ∧ (a = X.env.locals ∨ X.env.cells.lookup x = some a)) → Q () s') (hf : X.fn x = true ∨ X.env.scope.names.lookup x = some .local := by first | exact .inl rfl | exact .inr rfl | assumption) : wpAny M A (storeName X.env x u) Q E s := by
  obtain ⟨m, hn, hl⟩ := id I.loc
  have hcls : (X.env.scope.kind == .class || (X.env.scope.kind == .module && X.env.locals != X.env.globals)) = false := by rw [I.ok.kind]; rfl
  have hiσ : i < σ.length := by rw [I.len]; exact (List.getElem?_eq_some_iff.mp hi).1
  have cne := I.cne
  have tracked : ∀ {a : Addr} {h' : Heap}, (∃ o, s.heap.get? a = some o ∧ H a = none) → Heap.SameBut a s.heap h' → HOk X.prog X.w H h' := fun {a h'} ha hs b ob e => by
    obtain ⟨_, _, hfree⟩ := ha
    refine (I.hok b ob e).stay (fun c w' hc q => (hs.2 c ?_).trans q) (fun _ q => q) fun _ _ q => q
    rintro rfl
    rcases hc with rfl | hc
    · rw [hfree] at e; cases e
    · rw [hfree] at hc; cases hc
  rcases hx with hk | hk
  · refine wpAny_storeName_local hk hn (fun h' hn' hs => ?_) hcls
    obtain ⟨oL, _, _, hoL, _⟩ := id hn
    refine h _ ⟨I.ok, I.os, I.bare, ⟨fun b o e n hb hx => ?_, fun b o e n hb hx => ?_, I.base.free, fun b o e hx => ?_, I.base.tups, I.base.frzs, I.base.tbls⟩, ⟨_, hn', fun j y v' e1 e2 e3 => ?_⟩, fun y c e => ?_, I.free, I.freeC, fun p hp => ?_, tracked ⟨oL, hoL, I.free⟩ hs, by simpa using I.len⟩ ⟨_, hs, .inl rfl⟩
    · exact (hs.2 b (Nat.ne_of_lt (Nat.lt_of_lt_of_le (Heap.lt_size e) I.ok.above))).trans (I.base.keep b o e n hb hx)
    · obtain ⟨sl, e1⟩ := I.base.slot b o e n hb hx
      exact ⟨sl, (hs.2 b (Nat.ne_of_lt (Nat.lt_of_lt_of_le (Heap.lt_size e) I.ok.above))).trans e1⟩
    · obtain ⟨o', e1⟩ := I.base.there b o e hx
      exact ⟨o', (hs.2 b (Nat.ne_of_lt (Nat.lt_of_lt_of_le (Heap.lt_size e) I.ok.above))).trans e1⟩
    · by_cases hj : j = i
      · subst hj
        rw [hi] at e1; cases e1
        rw [List.getElem?_set_self hiσ] at e2
        cases e2
        exact ⟨u, r, .inl ⟨hk, by simp⟩⟩
      · rw [List.getElem?_set_ne (Ne.symm hj)] at e2
        obtain ⟨u', r', q⟩ := hl j y v' e1 e2 e3
        refine ⟨u', r', ?_⟩
        rcases q with ⟨k, e⟩ | ⟨k, c, e, z⟩
        · refine .inl ⟨k, ?_⟩
          have : y ≠ x := fun e => hj (nodup_ix hN e1 (e ▸ hi))
          simp [this, e]
        · exact .inr ⟨k, c, e, z.sameBut hs (cne y c e)⟩
    · obtain ⟨w', z⟩ := I.cell y c e
      exact ⟨w', z.sameBut hs (cne y c e)⟩
    · obtain ⟨e, n, ne, nf, d⟩ := I.pin p hp
      exact ⟨(hs.2 p.1 ne).trans e, n, ne, nf, d⟩
  · have hfn : X.fn x = true := by
      rcases hf with z | z
      · exact z
      · rw [z] at hk; cases hk
    obtain ⟨c, hc⟩ := I.ok.has x (.inl hk)
    obtain ⟨w', z⟩ := I.cell x c hc
    refine wpAny_storeName_cell I.ok.kind hk hc z (fun h' hc' hs => ?_)
    obtain ⟨oc, hoc, hocd⟩ := id z
    refine h { s with heap := h' } ⟨I.ok, I.os, I.bare, ⟨fun b o e n hb hx => ?_, fun b o e n hb hx => ?_, I.base.free, fun b o e hx => ?_, I.base.tups, I.base.frzs, I.base.tbls⟩, ⟨m, hn.sameBut hs (Ne.symm (cne x c hc)), fun j y v' e1 e2 e3 => ?_⟩, fun y c' e => ?_, I.free, I.freeC, fun p hp => ?_, tracked ⟨oc, hoc, I.freeC x c hc⟩ hs, by simpa using I.len⟩ ⟨c, hs, .inr hc⟩
    · exact (hs.2 b (Nat.ne_of_lt (Nat.lt_of_lt_of_le (Heap.lt_size e) (I.ok.cab x c hfn hc)))).trans (I.base.keep b o e n hb hx)
    · obtain ⟨sl, e1⟩ := I.base.slot b o e n hb hx
      exact ⟨sl, (hs.2 b (Nat.ne_of_lt (Nat.lt_of_lt_of_le (Heap.lt_size e) (I.ok.cab x c hfn hc)))).trans e1⟩
    · obtain ⟨o', e1⟩ := I.base.there b o e hx
      exact ⟨o', (hs.2 b (Nat.ne_of_lt (Nat.lt_of_lt_of_le (Heap.lt_size e) (I.ok.cab x c hfn hc)))).trans e1⟩
    · by_cases hj : j = i
      · subst hj
        rw [hi] at e1; cases e1
        rw [List.getElem?_set_self hiσ] at e2
        cases e2
        exact ⟨u, r, .inr ⟨.inl hk, c, hc, hc'⟩⟩
      · rw [List.getElem?_set_ne (Ne.symm hj)] at e2
        obtain ⟨u', r', q⟩ := hl j y v' e1 e2 e3
        refine ⟨u', r', ?_⟩
        rcases q with q | ⟨k, c', e, z'⟩
        · exact .inl q
        · refine .inr ⟨k, c', e, z'.sameBut hs ?_⟩
          rintro rfl
          exact hj (nodup_ix hN e1 (I.ok.inj _ _ _ e hc ▸ hi))
    · by_cases hcc : c' = c
      · subst hcc; exact ⟨_, hc'⟩
      · obtain ⟨w2, z2⟩ := I.cell y c' e
        exact ⟨w2, z2.sameBut hs hcc⟩
    · obtain ⟨e, n, ne, nf, d⟩ := I.pin p hp
      refine ⟨(hs.2 p.1 ?_).trans e, n, ne, nf, d⟩
      intro q
      rw [q, hoc] at e
      have q' : oc = p.2 := Option.some.inj e
      exact d w' (by rw [← q']; exact hocd)
theorem store_ok {M : Model} {A : Around} {E : Value → Shared → Prop} {i : Nat} {x : Str} {v : V} {u : Value} {Q : Unit → Shared → Prop} (I : Inv X pins σ H s) (hN : X.N.Nodup) (hi : X.N[i]? = some x) (hx : Loc X.env.scope x) (r : RelV v u)
    (h : ∀ s', Inv X pins (σ.set i (some v)) H s' → Q () s') (hf : X.fn x = true ∨ X.env.scope.names.lookup x = some .local := by first | exact .inl rfl | exact .inr rfl | assumption) : wpAny M A (storeName X.env x u) Q E s :=
  store_ok2 I hN hi hx r (fun s' I' _ => h s' I') hf
theorem Inv.call' {s' : Shared} {ch : List Addr} (I : Inv X pins σ H s) (ho : s'.os = s.os) (u : Un (frs X.stack) ch H H' s.heap s'.heap) (hok : HOk X.prog X.w H' s'.heap) (hg : AllBare s'.gens)
    (hch : ∀ b ∈ ch, (b ∈ X.ex ∨ X.s₀.heap.objs.size ≤ b) ∧ b ≠ X.env.locals ∧ (∀ x c, X.env.cells.lookup x = some c → c ≠ b) ∧ ∀ p ∈ X.pn ++ pins, p.1 ≠ b) : Inv X pins σ H' s' := by
  obtain ⟨h', g', d', t', o'⟩ := s'
  have e : o' = s.os := ho
  subst e
  exact I.call (g' := g') (t' := t') (d' := d') u hok hg hch
end
abbrev XK := Value → Option Addr → Hp → Prop
abbrev St := List (Option V)
abbrev VK := V → Hp → Prop
abbrev TE := St → Hp → VK → Prop
abbrev TT := St → Hp → (Bool → Hp → Prop) → Prop
abbrev TA := St → Hp → (List V → Hp → Prop) → Prop
structure Ends where
  nx : St → Hp → Prop
  rt : VK
  bk : St → Hp → Prop := fun _ _ => False
  ct : St → Hp → Prop := fun _ _ => False
abbrev TS := Ends → St → Hp → Prop
def EP (X : Cx) (pins : List (Addr × Obj)) (σ : St) (Q : VK) (u : Value) (s' : Shared) : Prop := ∃ v H', Inv X pins σ H' s' ∧ RelV v u ∧ Q v H'
def TP (X : Cx) (pins : List (Addr × Obj)) (σ : St) (Q : Bool → Hp → Prop) (b : Bool) (s' : Shared) : Prop := ∃ H', Inv X pins σ H' s' ∧ Q b H'
def AP (X : Cx) (pins : List (Addr × Obj)) (σ : St) (Q : List V → Hp → Prop) (us : List Value) (s' : Shared) : Prop := ∃ vs H', Inv X pins σ H' s' ∧ Vals vs us ∧ Q vs H'
def SP (X : Cx) (pins : List (Addr × Obj)) (D : Ends) (f : Flow) (s' : Shared) : Prop :=
  match f with
  | .next => ∃ σ' H', Inv X pins σ' H' s' ∧ D.nx σ' H'
  | .brk => ∃ σ' H', Inv X pins σ' H' s' ∧ D.bk σ' H'
  | .cont => ∃ σ' H', Inv X pins σ' H' s' ∧ D.ct σ' H'
  | .ret u => ∃ v σ' H', Inv X pins σ' H' s' ∧ RelV v u ∧ D.rt v H'
def PE (X : Cx) (e : Expr) (t : TE) : Prop :=
  ∀ (pins : List (Addr × Obj)) (s : Shared) (σ : St) (H : Hp) (Q : VK), Inv X pins σ H s → t σ H Q → wpAny (model X.prog X.w) X.A (eval e X.env) (EP X pins σ Q) X.xe s
def PT (X : Cx) (e : Expr) (t : TT) : Prop :=
  ∀ (pins : List (Addr × Obj)) (s : Shared) (σ : St) (H : Hp) (Q : Bool → Hp → Prop), Inv X pins σ H s → t σ H Q → wpAny (model X.prog X.w) X.A (isTrue e X.env (eval e X.env)) (TP X pins σ Q) X.xe s
def PW (X : Cx) (e : Expr) (t : TT) : Prop :=
  ∀ (whole : Sem Value) (pins : List (Addr × Obj)) (s : Shared) (σ : St) (H : Hp) (Q : Bool → Hp → Prop), Inv X pins σ H s → t σ H Q → wpAny (model X.prog X.w) X.A (isTrue e X.env whole) (TP X pins σ Q) X.xe s
theorem PW.pt {X : Cx} {e : Expr} {t : TT} (h : PW X e t) : PT X e t := h _
def PA (X : Cx) (es : List Expr) (t : TA) : Prop :=
  ∀ (pos : Pos) (pins : List (Addr × Obj)) (s : Shared) (σ : St) (H : Hp) (Q : List V → Hp → Prop), Inv X pins σ H s → t σ H Q → wpAny (model X.prog X.w) X.A (spliced (backTo pos (starEach es X.env))) (AP X pins σ Q) X.xe s
def PS (X : Cx) (st : Stmt) (t : TS) : Prop :=
  ∀ (pins : List (Addr × Obj)) (s : Shared) (σ : St) (H : Hp) (D : Ends), Inv X pins σ H s → t D σ H → wpAny (model X.prog X.w) X.A (exec st X.env) (SP X pins D) X.xe s
def PSs (X : Cx) (st : List Stmt) (t : TS) : Prop :=
  ∀ (pins : List (Addr × Obj)) (s : Shared) (σ : St) (H : Hp) (D : Ends), Inv X pins σ H s → t D σ H → wpAny (model X.prog X.w) X.A (execs st X.env) (SP X pins D) X.xe s
theorem thn {α : Type} {t : Sem α} {Q Q' : α → Shared → Prop} {M : Model} {A : Around} {E : Value → Shared → Prop} {s : Shared} (h : wpAny M A t Q E s) (hQ : ∀ a s, Q a s → Q' a s) : wpAny M A t Q' E s := wpAny_mono h hQ fun _ _ x => x
end L2
namespace L2
open PySem PySem.Spec PyProof.Rows
section
variable {X : Cx}
def tVar (i : Nat) : TE := fun σ H Q => ∃ v, σ[i]? = some (some v) ∧ Q v H
def tC (v : V) : TE := fun _ H Q => Q v H
theorem pe_var {i : Nat} {x : Str} {pos : Pos} (hN : X.N[i]? = some x) (hv : Vis X.env.scope x) (hd : (x == ("__debug__" : Str)) = false := by decide) (hcd : (x == ("__classdict__" : Str)) = false := by decide) : PE X (.Name x pos) (tVar i) := by
  intro pins s σ H Q I h
  obtain ⟨v, e, h⟩ := h
  obtain ⟨m, hn, hl⟩ := I.loc
  obtain ⟨u, r, l⟩ := hl i x v hN e hv
  have fin : EP X pins σ Q u s := ⟨v, H, I, r, h⟩
  rcases l with ⟨hk, hm⟩ | ⟨hk, c, hc, hcell⟩
  · exact wpAny_Name (wpAny_loadName_local I.ok.kind hk hn hm fin) hd
  · rcases hk with hk | hk
    · exact wpAny_Name (wpAny_loadName_cell I.ok.kind hk hc hcell fin) hd
    · exact wpAny_Name (wpAny_loadName_free I.ok.kind hk hc hcell fin hcd) hd
theorem pe_int {i j pos} : PE X (.Constant (.int i) j pos) (tC (.int i)) := fun _ _ _ H _ I h => wpAny_Constant_int ⟨.int i, H, I.tok _, ⟨_, rfl⟩, h⟩
theorem pe_bl {b j pos} : PE X (.Constant (.bool b) j pos) (tC (.bl b)) := fun _ _ _ H _ I h => Constant_bool ⟨.bl b, H, I, rfl, h⟩
theorem pe_non {j pos} : PE X (.Constant .none j pos) (tC .non) := fun _ _ _ H _ I h => Constant_none ⟨.non, H, I, rfl, h⟩
theorem pe_str {x j pos} : PE X (.Constant (.str x) j pos) (tC (.str x)) := fun _ _ _ H _ I h => Calls.Constant_str ⟨.str x, H, I.tok _, ⟨_, rfl⟩, h⟩
def Gl (X : Cx) (x : Str) : Prop := X.env.kindOf x = some .globalImplicit
theorem ld_glob {E : Value → Shared → Prop} {pins : List (Addr × Obj)} {s : Shared} {σ : St} {H : Hp} {x : Str} {u : Value} {pos : Pos} {Q : Value → Shared → Prop} (I : Inv X pins σ H s) (hg : Gl X x) (hm : X.mg x = some u) (h : Q u s)
    (hd : (x == ("__debug__" : Str)) = false := by decide) : wpAny (model X.prog X.w) X.A (eval (.Name x pos) X.env) Q E s :=
  Calls.Name_function_global I.ok.kind hg (Calls.loadGlobal_global (by rw [I.ok.glob]; exact I.mod.glob.keeps I.bk) hm h) hd
theorem ld_blt {E : Value → Shared → Prop} {pins : List (Addr × Obj)} {s : Shared} {σ : St} {H : Hp} {x : Str} {u : Value} {pos : Pos} {Q : Value → Shared → Prop} (I : Inv X pins σ H s) (hg : Gl X x) (hm : X.mg x = none) (hv : bootBuiltins x = some u) (h : Q u s)
    (hn : x ≠ "__name__" := by decide) (hd : (x == ("__debug__" : Str)) = false := by decide) : wpAny (model X.prog X.w) X.A (eval (.Name x pos) X.env) Q E s := by
  obtain ⟨mb, h1, h2⟩ := I.mod.blt
  exact Calls.Name_function_global I.ok.kind hg (Calls.loadGlobal_builtin (by rw [I.ok.glob]; exact I.mod.glob.keeps I.bk) hm (by rw [I.ok.blt]; exact h1.keeps I.bk) ((h2 x hn).trans hv) h) hd
theorem pe_glob {x : Str} {v : V} {u : Value} {pos : Pos} (hg : Gl X x) (hm : X.mg x = some u) (r : RelV v u) (hd : (x == ("__debug__" : Str)) = false := by decide) : PE X (.Name x pos) (tC v) :=
  fun _ _ _ H _ I h => ld_glob I hg hm ⟨v, H, I, r, h⟩ hd
theorem pe_bltn {x : Str} {v : V} {u : Value} {pos : Pos} (hg : Gl X x) (hm : X.mg x = none) (hv : bootBuiltins x = some u) (r : RelV v u) (hn : x ≠ "__name__" := by decide) (hd : (x == ("__debug__" : Str)) = false := by decide) : PE X (.Name x pos) (tC v) :=
  fun _ _ _ H _ I h => ld_blt I hg hm hv ⟨v, H, I, r, h⟩ hn hd
variable {a b : Expr} {ta tb : TE} {pos : Pos}
def tB (t : TE) : TT := fun σ H Q => t σ H fun x H1 => ∃ c, x = .bl c ∧ Q c H1
theorem pt_val {e : Expr} {t : TE} (h : PE X e t) (he : ∀ whole, isTrue e X.env whole = (do let v ← whole; standAt e.pos; holding [v] (truthy v)) := by intro _; rfl) : PT X e (tB t) := by
  intro pins s σ H Q I hw
  refine isTrue_plain (thn (h pins s σ H _ I hw) fun v s1 ⟨x, H1, I1, r1, q1⟩ => ?_) (he _)
  obtain ⟨d, rfl, q⟩ := q1
  cases r1
  exact wpAny_truthy_bool ⟨H1, I1, q⟩
variable {tA tB' : TT} {rest : List Expr}
def tAnd (t u : TT) : TT := fun σ H Q => t σ H fun c H1 => if c = true then u σ H1 Q else Q false H1
def tOr (t u : TT) : TT := fun σ H Q => t σ H fun c H1 => if c = true then Q true H1 else u σ H1 Q
def tNot (t : TT) : TT := fun σ H Q => t σ H fun c H1 => Q (!c) H1
theorem pw_and1 (ha : PT X a tA) : PW X (.BoolOp .And [a] pos) tA := by
  intro wh pins s σ H Q I h
  refine isTrue_and (thn (ha pins s σ H Q I h) fun c s1 e => ?_)
  cases c with
  | true => exact isTrue_and_nil e
  | false => exact e
theorem pw_or1 (ha : PT X a tA) : PW X (.BoolOp .Or [a] pos) tA := by
  intro wh pins s σ H Q I h
  refine isTrue_or (thn (ha pins s σ H Q I h) fun c s1 e => ?_)
  cases c with
  | false => exact isTrue_or_nil e
  | true => exact e
theorem pw_and (ha : PT X a tA) (hb : PW X (.BoolOp .And (b :: rest) pos) tB') : PW X (.BoolOp .And (a :: b :: rest) pos) (tAnd tA tB') := by
  intro wh pins s σ H Q I h
  refine isTrue_and (thn (ha pins s σ H _ I h) fun c s1 ⟨H1, I1, q1⟩ => ?_)
  cases c with
  | true => exact hb wh pins s1 σ H1 Q I1 q1
  | false => exact ⟨H1, I1, q1⟩
theorem pw_or (ha : PT X a tA) (hb : PW X (.BoolOp .Or (b :: rest) pos) tB') : PW X (.BoolOp .Or (a :: b :: rest) pos) (tOr tA tB') := by
  intro wh pins s σ H Q I h
  refine isTrue_or (thn (ha pins s σ H _ I h) fun c s1 ⟨H1, I1, q1⟩ => ?_)
  cases c with
  | true => exact ⟨H1, I1, q1⟩
  | false => exact hb wh pins s1 σ H1 Q I1 q1
theorem pt_not (ha : PT X a tA) : PT X (.UnaryOp .Not a pos) (tNot tA) := by
  intro pins s σ H Q I h
  exact isTrue_not (ha pins s σ H (fun c H1 => Q (!c) H1) I h)
def tAndV (ta tb : TE) : TE := fun σ H Q => ta σ H fun x H1 => ∃ c, x = .bl c ∧ if c = true then tb σ H1 Q else Q (.bl false) H1
def tOrV (ta tb : TE) : TE := fun σ H Q => ta σ H fun x H1 => ∃ c, x = .bl c ∧ if c = true then Q (.bl true) H1 else tb σ H1 Q
def tNotV (ta : TE) : TE := fun σ H Q => ta σ H fun x H1 => ∃ c, x = .bl c ∧ Q (.bl (!c)) H1
theorem pe_one {op} {t : TE} (h : PE X a t) : PE X (.BoolOp op [a] pos) t := fun pins s σ H Q I hw => BoolOp_one (h pins s σ H Q I hw)
theorem pe_and (ha : PE X a ta) (hb : PE X (.BoolOp .And (b :: rest) pos) tb) : PE X (.BoolOp .And (a :: b :: rest) pos) (tAndV ta tb) := by
  intro pins s σ H Q I h
  refine BoolOp_and (thn (ha pins s σ H _ I h) fun v s1 ⟨x, H1, I1, r1, q1⟩ => ?_)
  obtain ⟨c, rfl, q1⟩ := q1
  cases r1
  refine wpAny_truthy_bool ?_
  cases c with
  | true => exact hb pins s1 σ H1 Q I1 q1
  | false => exact ⟨.bl false, H1, I1, rfl, q1⟩
theorem pe_or (ha : PE X a ta) (hb : PE X (.BoolOp .Or (b :: rest) pos) tb) : PE X (.BoolOp .Or (a :: b :: rest) pos) (tOrV ta tb) := by
  intro pins s σ H Q I h
  refine BoolOp_or (thn (ha pins s σ H _ I h) fun v s1 ⟨x, H1, I1, r1, q1⟩ => ?_)
  obtain ⟨c, rfl, q1⟩ := q1
  cases r1
  refine wpAny_truthy_bool ?_
  cases c with
  | false => exact hb pins s1 σ H1 Q I1 q1
  | true => exact ⟨.bl true, H1, I1, rfl, q1⟩
theorem pe_not (ha : PE X a ta) : PE X (.UnaryOp .Not a pos) (tNotV ta) := by
  intro pins s σ H Q I h
  refine UnaryOp_ (thn (ha pins s σ H _ I h) fun v s1 ⟨x, H1, I1, r1, q1⟩ => ?_)
  obtain ⟨c, rfl, q1⟩ := q1
  cases r1
  exact not_of (wpAny_truthy_bool ⟨.bl (!c), H1, I1, rfl, q1⟩)
end
end L2
namespace L2
open PySem PySem.Spec PyProof.Rows
def SqL (K : PySem.W.Frag) (H : Hp) (a : Addr) (xs : List V) : Prop :=
  Rd H a (.lst xs) ∨
    ∃ (o : Obj) (its : Array Value) (n : Nat), K.lookup a = some o ∧ o.cls = .type "list" ∧ o.dict = none ∧ o.data = .seq its n ∧ its.size ≤ sizeLine ∧ Vals xs its.toList
def SqT (K : PySem.W.Frag) (H : Hp) (a : Addr) (xs : List V) : Prop :=
  Rd H a (.tup xs) ∨
    ∃ (o : Obj) (its : Array Value) (n : Nat), K.lookup a = some o ∧ o.cls = .type "tuple" ∧ o.data = .seq its n ∧ its.size ≤ sizeLine ∧ Vals xs its.toList
def absV : Value → Option V
  | .none => some .non
  | .bool b => some (.bl b)
  | .int i _ => some (.int i)
  | .str x _ => some (.str x)
  | .bytes b _ => some (.byt b)
  | .float b _ => some (.flt b)
  | .ref a => some (.ref a)
  | .type n => some (.ty n)
  | _ => none
theorem RelV.abs {x : V} {u : Value} (r : RelV x u) : absV u = some x := by
  cases x with
  | non => cases r; rfl
  | bl _ => cases r; rfl
  | int _ => obtain ⟨t, rfl⟩ := r; rfl
  | str _ => obtain ⟨t, rfl⟩ := r; rfl
  | byt _ => obtain ⟨t, rfl⟩ := r; rfl
  | flt _ => obtain ⟨t, rfl⟩ := r; rfl
  | ref _ => cases r; rfl
  | ty _ => cases r; rfl
theorem RelV.inj {x y : V} {u : Value} (r : RelV x u) (q : RelV y u) : x = y := Option.some.inj (r.abs.symm.trans q.abs)
theorem Vals.inj : ∀ {xs ys : List V} {us : List Value}, Vals xs us → Vals ys us → xs = ys
  | _, _, _, .nil, .nil => rfl
  | _, _, _, .cons r t, .cons r' t' => by rw [r.inj r', Vals.inj t t']
section
variable {X : Cx} {pins : List (Addr × Obj)} {σ : St} {H : Hp} {s : Shared} {a : Addr} {xs ys : List V}
theorem SqL.of {K : PySem.W.Frag} (h : H a = some (.lst xs)) : SqL K H a xs := .inl (.inl h)
theorem SqT.of {K : PySem.W.Frag} (h : H a = some (.tup xs)) : SqT K H a xs := .inl (.inl h)
theorem Inv.list (I : Inv X pins σ H s) (h : SqL X.K H a xs) : ∃ its : List Value, Vals xs its ∧ PlainL s.heap a its.toArray ∧ xs.length ≤ sizeLine := by
  rcases h with h | ⟨o, its, n, hk, hc, hd, hs, hz, r⟩
  · obtain ⟨z, its, n, r, e⟩ := h.ok I.hok
    exact ⟨its, r, ⟨_, n, e, rfl, rfl, rfl⟩, z⟩
  · refine ⟨its.toList, r, ⟨o, n, I.kIn a o hk, hc, hd, by simpa using hs⟩, ?_⟩
    have e := r.length
    simp only [Array.length_toList] at e
    omega
theorem Inv.tuple (I : Inv X pins σ H s) (h : SqT X.K H a xs) : ∃ its : List Value, Vals xs its ∧ IsTup s.heap a its.toArray ∧ xs.length ≤ sizeLine := by
  rcases h with h | ⟨o, its, n, hk, hc, hs, hz, r⟩
  · obtain ⟨z, its, r, p⟩ := h.ok I.hok
    exact ⟨its, r, p, z⟩
  · refine ⟨its.toList, r, ⟨o, I.kIn a o hk, hc, n, by simpa using hs⟩, ?_⟩
    have e := r.length
    simp only [Array.length_toList] at e
    omega
theorem Inv.list_inj (I : Inv X pins σ H s) (h : SqL X.K H a xs) (h' : SqL X.K H a ys) : xs = ys := by
  obtain ⟨its, r, ⟨o, n, e, _, _, d⟩, _⟩ := I.list h
  obtain ⟨its', r', ⟨o', n', e', _, _, d'⟩, _⟩ := I.list h'
  rw [e] at e'; cases e'
  rw [d] at d'
  injection d' with d1 _
  have : its = its' := by simpa using congrArg Array.toList d1
  subst this
  exact r.inj r'
theorem Inv.tuple_inj (I : Inv X pins σ H s) (h : SqT X.K H a xs) (h' : SqT X.K H a ys) : xs = ys := by
  obtain ⟨its, r, ⟨o, e, _, n, d⟩, _⟩ := I.tuple h
  obtain ⟨its', r', ⟨o', e', _, n', d'⟩, _⟩ := I.tuple h'
  rw [e] at e'; cases e'
  rw [d] at d'
  injection d' with d1 _
  have : its = its' := by simpa using congrArg Array.toList d1
  subst this
  exact r.inj r'
end
abbrev Cx.wish (X : Cx) (E : Value → Shared → Prop) : Cx := { X with xe := E }
abbrev Cx.nox (X : Cx) : Cx := X.wish fun _ _ => False
theorem Cx.Ok.wish {X : Cx} (ok : X.Ok) (E : Value → Shared → Prop) : (X.wish E).Ok :=
  ⟨ok.mod, ok.kind, ok.glob, ok.blt, ok.above, ok.inj, ok.has, ok.cab, ok.hd, ok.frames, ok.stk, ok.exf, ok.bs, ok.bsz, ok.noex, ok.exfs, ok.funs, ok.frf⟩
theorem Cx.Ok.unwish {X : Cx} {E : Value → Shared → Prop} (ok : (X.wish E).Ok) : X.Ok :=
  ⟨ok.mod, ok.kind, ok.glob, ok.blt, ok.above, ok.inj, ok.has, ok.cab, ok.hd, ok.frames, ok.stk, ok.exf, ok.bs, ok.bsz, ok.noex, ok.exfs, ok.funs, ok.frf⟩
section
variable {X : Cx} {pins : List (Addr × Obj)} {σ : St} {H : Hp} {s : Shared} {E : Value → Shared → Prop}
theorem Inv.wish (I : Inv X pins σ H s) (E : Value → Shared → Prop) : Inv (X.wish E) pins σ H s := ⟨I.ok.wish E, I.os, I.bare, I.base, I.loc, I.cell, I.free, I.freeC, I.pin, I.hok, I.len⟩
theorem Inv.unwish (I : Inv (X.wish E) pins σ H s) : Inv X pins σ H s := ⟨I.ok.unwish, I.os, I.bare, I.base, I.loc, I.cell, I.free, I.freeC, I.pin, I.hok, I.len⟩
theorem SP.unwish {D : Ends} {f : Flow} {s' : Shared} (h : SP (X.wish E) pins D f s') : SP X pins D f s' := by
  cases f with
  | next => obtain ⟨σ', H', I, q⟩ := h; exact ⟨σ', H', I.unwish, q⟩
  | brk => obtain ⟨σ', H', I, q⟩ := h; exact ⟨σ', H', I.unwish, q⟩
  | cont => obtain ⟨σ', H', I, q⟩ := h; exact ⟨σ', H', I.unwish, q⟩
  | ret u => obtain ⟨v, σ', H', I, r, q⟩ := h; exact ⟨v, σ', H', I.unwish, r, q⟩
theorem PE.nox {e : Expr} {t : TE} (h : PE X.nox e t) : PE X e t := fun pins s σ H Q I hw =>
  wpAny_mono (h pins s σ H Q (I.wish _) hw) (fun _ _ ⟨v, H', I', r, q⟩ => ⟨v, H', I'.unwish, r, q⟩) fun _ _ z => False.elim z
theorem PT.nox {e : Expr} {t : TT} (h : PT X.nox e t) : PT X e t := fun pins s σ H Q I hw =>
  wpAny_mono (h pins s σ H Q (I.wish _) hw) (fun _ _ ⟨H', I', q⟩ => ⟨H', I'.unwish, q⟩) fun _ _ z => False.elim z
theorem PSs.nox {st : List Stmt} {t : TS} (h : PSs X.nox st t) : PSs X st t := fun pins s σ H D I hw =>
  wpAny_mono (h pins s σ H D (I.wish _) hw) (fun _ _ q => q.unwish) fun _ _ z => False.elim z
end
section
variable {X : Cx} {st : Stmt} {rest : List Stmt} {t u : TS} {e : Expr} {te : TE} {pos : Pos}
def tNext : TS := fun D σ H => D.nx σ H
def tSeq (t u : TS) : TS := fun D σ H => t { D with nx := u D } σ H
theorem pss_nil : PSs X [] tNext := fun _ _ σ H _ I h => wpAny_execs_nil ⟨σ, H, I, h⟩
theorem pss_cons (h1 : PS X st t) (h2 : PSs X rest u) : PSs X (st :: rest) (tSeq t u) := by
  intro pins s σ H D I h
  refine wpAny_execs_cons (thn (h1 pins s σ H { D with nx := u D } I h) fun f s1 q => ?_)
  cases f with
  | next =>
    obtain ⟨σ', H', I', q⟩ := q
    exact h2 pins s1 σ' H' D I' q
  | ret v => exact q
  | brk => exact q
  | cont => exact q
theorem pss_one (h1 : PS X st t) : PSs X [st] t := by
  intro pins s σ H D I h
  refine wpAny_execs_cons (thn (h1 pins s σ H D I h) fun f s1 q => ?_)
  cases f with
  | next => exact wpAny_execs_nil q
  | ret v => exact q
  | brk => exact q
  | cont => exact q
theorem Inv.quiet {pins : List (Addr × Obj)} {σ : St} {H : Hp} {s : Shared} (I : Inv X pins σ H s) : interactive X.env = false := by simp [interactive, I.ok.kind]
def tDrop (te : TE) : TS := fun D σ H => te σ H fun _ H1 => D.nx σ H1
theorem ps_expr (he : PE X e te) (hs : swapsWith e none pos.line X.env = pure false := by rfl) : PS X (.Expr e pos) (tDrop te) := by
  intro pins s σ H D I h
  exact wpAny_Expr_any (thn (he pins s σ H _ I h) fun v s1 ⟨x, H1, I1, r1, q1⟩ => ⟨σ, H1, I1, q1⟩) I.quiet hs
def tRet (te : TE) : TS := fun D σ H => te σ H D.rt
theorem ps_ret (he : PE X e te) : PS X (.Return (some e) pos) (tRet te) := by
  intro pins s σ H D I h
  exact wpAny_Return_some (thn (he pins s σ H _ I h) fun v s1 ⟨x, H1, I1, r1, q1⟩ => ⟨x, σ, H1, I1, r1, q1⟩)
def tIfS (c : TT) (t u : TS) : TS := fun D σ H => c σ H fun b H1 => if b = true then t D σ H1 else u D σ H1
theorem ps_if {c : Expr} {a b : List Stmt} {tc : TT} (hc : PT X c tc) (ha : PSs X a t) (hb : PSs X b u) : PS X (.If c a b pos) (tIfS tc t u) := by
  intro pins s σ H D I h
  refine wpAny_If (thn (hc pins s σ H _ I h) fun d s1 ⟨H1, I1, q1⟩ => ?_)
  cases d with
  | true => exact ha pins s1 σ H1 D I1 q1
  | false => exact hb pins s1 σ H1 D I1 q1
end
abbrev TG := V → St → Hp → (St → Hp → Prop) → Prop
abbrev TGs := List V → St → Hp → (St → Hp → Prop) → Prop
def PG (X : Cx) (target : Expr) (t : TG) : Prop :=
  ∀ (pins : List (Addr × Obj)) (s : Shared) (σ : St) (H : Hp) (v : V) (u : Value) (Q : St → Hp → Prop), Inv X pins σ H s → RelV v u → t v σ H Q →
    wpAny (model X.prog X.w) X.A (assign target X.env u) (fun _ s' => ∃ σ' H', Inv X pins σ' H' s' ∧ Q σ' H') X.xe s
def PGs (X : Cx) (ts : List Expr) (t : TGs) : Prop :=
  ∀ (pins : List (Addr × Obj)) (s : Shared) (σ : St) (H : Hp) (vs : List V) (us : List Value) (Q : St → Hp → Prop), Inv X pins σ H s → Vals vs us → t vs σ H Q →
    wpAny (model X.prog X.w) X.A (assignInOrder ((assignEach ts X.env).map (·.2)) us) (fun _ s' => ∃ σ' H', Inv X pins σ' H' s' ∧ Q σ' H') X.xe s
abbrev TSet := V → V → V → Hp → (Hp → Prop) → Prop
def PSet (X : Cx) (t : TSet) : Prop :=
  ∀ (pins : List (Addr × Obj)) (s : Shared) (σ : St) (H : Hp) (o i v : V) (ov iv u : Value) (Q : Hp → Prop), Inv X pins σ H s → RelV o ov → RelV i iv → RelV v u → t o i v H Q →
    wpAny (model X.prog X.w) X.A (setItem ov iv u) (fun _ s' => ∃ H', Inv X pins σ H' s' ∧ Q H') X.xe s
section
variable {X : Cx} {pos : Pos}
def gName (i : Nat) : TG := fun v σ H Q => Q (σ.set i (some v)) H
theorem pg_name {i : Nat} {x : Str} (hN : X.N.Nodup) (hi : X.N[i]? = some x) (hx : Loc X.env.scope x) (hf : X.fn x = true ∨ X.env.scope.names.lookup x = some .local := by first | exact .inl rfl | exact .inr rfl | assumption) : PG X (.Name x pos) (gName i) := by
  intro pins s σ H v u Q I r h
  exact wpAny_assign_Name (store_ok I hN hi hx r (fun s' I' => ⟨_, H, I', h⟩) hf)
def gNil : TGs := fun vs σ H Q => vs = [] ∧ Q σ H
def gCons (t : TG) (u : TGs) : TGs := fun vs σ H Q => ∃ v r, vs = v :: r ∧ t v σ H fun σ' H' => u r σ' H' Q
theorem pgs_nil : PGs X [] gNil := by
  intro pins s σ H vs us Q I r h
  obtain ⟨e, h⟩ := h
  subst e
  cases r
  exact assignInOrder_nil ⟨σ, H, I, h⟩
theorem pgs_cons {e : Expr} {es : List Expr} {t : TG} {u : TGs} (h1 : PG X e t) (h2 : PGs X es u)
    (hs : (assignEach (e :: es) X.env).map (·.2) = assign e X.env :: (assignEach es X.env).map (·.2) := by rfl) : PGs X (e :: es) (gCons t u) := by
  intro pins s σ H vs us Q I r h
  obtain ⟨v, vr, e1, h⟩ := h
  subst e1
  cases r with
  | cons r rr =>
    rw [hs]
    refine assignInOrder_cons (thn (h1 pins s σ H _ _ _ I r h) fun _ s1 ⟨σ1, H1, I1, q1⟩ => ?_)
    exact h2 pins s1 σ1 H1 _ _ Q I1 rr q1
def gTup (K : PySem.W.Frag) (n : Nat) (t : TGs) : TG := fun v σ H Q => ∃ a xs, v = .ref a ∧ SqT K H a xs ∧ xs.length = n ∧ t xs σ H Q
theorem pg_tup {es : List Expr} {k : Nat} {t : TGs} {n : Nat} (hc : X.calm = true) (h : PGs X es t)
    (hn : (assignEach es X.env).length = n := by rfl) (hst : (assignEach es X.env).findIdx? (·.1) = none := by rfl) : PG X (.Tuple es k pos) (gTup X.K n t) := by
  intro pins s σ H v u Q I r hw
  obtain ⟨a, xs, e1, hq, hl, hw⟩ := hw
  subst e1
  cases r
  obtain ⟨its, rv, ht, hz⟩ := I.tuple hq
  refine assign_Tuple_tuple (I.ok.hd hc) ht (by simp [hn, ← hl, rv.length]) hst fun h' hx => ?_
  have I1 : Inv X pins σ H { s with heap := h' } := I.kept (t' := s.toks) fun b o e => hx b o (Nat.ne_of_lt (Heap.lt_size e)) e
  exact h pins _ σ H xs _ Q I1 (by simpa using rv) hw
def gSub (to ti : TE) (t : TSet) : TG := fun v σ H Q => to σ H fun o H1 => ti σ H1 fun i H2 => t o i v H2 fun H3 => Q σ H3
theorem pg_sub {o i : Expr} {to ti : TE} {t : TSet} (ho : PE X o to) (hi : PE X i ti) (hs : PSet X t)
    (ha : ∀ v, assign (.Subscript o i pos) X.env v = (do
      let ov ← holding [v] (eval o X.env)
      let iv ← holding [v, ov] (eval i X.env)
      standAt pos
      holding [v, ov, iv] (setItem ov iv v)
      release [v, ov, iv] []) := by intro _; rfl) : PG X (.Subscript o i pos) (gSub to ti t) := by
  intro pins s σ H v u Q I r h
  rw [ha]
  refine wpAny_bind (wpAny_holding (thn (ho pins s σ H _ I h) fun ov s1 ⟨x, H1, I1, r1, q1⟩ => ?_))
  refine wpAny_bind (wpAny_holding (thn (hi pins s1 σ H1 _ I1 q1) fun iv s2 ⟨y, H2, I2, r2, q2⟩ => ?_))
  refine wpAny_bind (wpAny_standAt (wpAny_bind (wpAny_holding (thn (hs pins s2 σ H2 x y v ov iv u _ I2 r1 r2 r q2) fun _ s3 ⟨H3, I3, q3⟩ => ?_))))
  exact wpAny_release ⟨σ, H3, I3, q3⟩
def tAsg (te : TE) (g : TG) : TS := fun D σ H => te σ H fun x H1 => g x σ H1 D.nx
theorem ps_asg {tg e : Expr} {te : TE} {g : TG} (he : PE X e te) (hg : PG X tg g) (hs : swapsWithSole [tg] e pos.line X.env = pure false := by rfl) (hw : swappedStores [tg] e X.env = pure none := by rfl)
    (h1 : (assignEach [tg] X.env).map (·.2) = [assign tg X.env] := by rfl) : PS X (.Assign [tg] e pos) (tAsg te g) := by
  intro pins s σ H D I h
  refine wpAny_Assign_stores (thn (he pins s σ H _ I h) fun v s1 ⟨x, H1, I1, r1, q1⟩ => ?_) hs hw
  rw [h1]
  exact thn (hg pins s1 σ H1 x v _ I1 r1 q1) fun _ s2 q => q
theorem ps_set {i : Nat} {x : Str} {e : Expr} {te : TE} {pos' : Pos} (hN : X.N.Nodup) (hi : X.N[i]? = some x) (hx : Loc X.env.scope x) (he : PE X e te) (hs : swapsWith e (some (.Name x pos')) pos.line X.env = pure false := by rfl) (hf : X.fn x = true ∨ X.env.scope.names.lookup x = some .local := by first | exact .inl rfl | exact .inr rfl | assumption) :
    PS X (.Assign [.Name x pos'] e pos) (tAsg te (gName i)) := by
  intro pins s σ H D I h
  refine wpAny_Assign_Name (thn (he pins s σ H _ I h) fun v s1 ⟨y, H1, I1, r1, q1⟩ => ?_) hs
  exact store_ok I1 hN hi hx r1 (fun s2 I2 => ⟨_, H1, I2, q1⟩) hf
end
section
variable {X : Cx} {pos : Pos}
end
structure It where
  go : Nat → Hp → Prop
  yld : Nat → Hp → V → Hp → Prop
  stop : Nat → Hp → Prop
def FpOk (X : Cx) (pins : List (Addr × Obj)) (H : Hp) (b : Addr) : Prop :=
  H b = none ∧ b ≠ X.env.locals ∧ b ∉ X.fs ∧ (b ∈ X.ex ∨ X.s₀.heap.objs.size ≤ b) ∧ (∀ x c, X.env.cells.lookup x = some c → c ≠ b) ∧ ∀ p ∈ X.pn ++ pins, p.1 ≠ b
theorem Inv.fpOk {X : Cx} {pins : List (Addr × Obj)} {σ : St} {H H' : Hp} {s : Shared} {b : Addr} (I : Inv X pins σ H s) (hb : s.heap.objs.size ≤ b) (hn : H' b = none) : FpOk X pins H' b := by
  refine ⟨hn, Nat.ne_of_gt (Nat.lt_of_lt_of_le I.lt hb), I.nofs hb, .inr (Nat.le_trans I.sz hb), fun x c e z => ?_, fun p hp z => ?_⟩
  · obtain ⟨v, q⟩ := I.cell x c e
    exact absurd (Nat.lt_of_lt_of_le q.lt (by rw [z]; exact hb)) (Nat.lt_irrefl _)
  · exact absurd (Nat.lt_of_lt_of_le (Heap.lt_size (I.pin p hp).1) (by rw [z]; exact hb)) (Nat.lt_irrefl _)
structure Turn (P : Program) (w : World) (K : PySem.W.Frag) (tg : Expr) (J : It) (fp : List Addr) (it : Addr) (tn : Nat → Heap → Prop) : Prop where
  mem : it ∈ fp
  obj : ∀ i h, tn i h → ∀ b ∈ fp, ∃ o, h.get? b = some o ∧ ∀ v, o.data ≠ .cell v
  keep : ∀ i h h', tn i h → (∀ b ∈ fp, ∀ o, h.get? b = some o → h'.get? b = some o) → tn i h'
  item : ∀ (X : Cx), X.prog = P → X.w = w → X.K = K → X.calm = true → ∀ (i : Nat) (pins : List (Addr × Obj)) (s : Shared) (σ : St) (H : Hp) (E : Value → Shared → Prop), Inv X pins σ H s → (∀ b ∈ fp, FpOk X pins H b) → tn i s.heap → J.go i H →
    wpAny (model P w) X.A (pyNext (.ref it)) (fun r s1 => ∃ u, r = some u ∧
      wpAny (model P w) X.A (letOwnedTupleGo tg (.ref it) u) (fun _ s2 => ∃ x H', Inv X pins σ H' s2 ∧ RelV x u ∧ J.yld i H x H' ∧ tn (i + 1) s2.heap ∧ ∀ b ∈ fp, H' b = none) E s1) E s
  done : ∀ (X : Cx), X.prog = P → X.w = w → X.K = K → X.calm = true → ∀ (i : Nat) (pins : List (Addr × Obj)) (s : Shared) (σ : St) (H : Hp) (E : Value → Shared → Prop), Inv X pins σ H s → (∀ b ∈ fp, FpOk X pins H b) → tn i s.heap → J.stop i H →
    wpAny (model P w) X.A (pyNext (.ref it)) (fun r s1 => r = none ∧ Inv X pins σ H s1) E s
  self : ∀ (A : Around) (i : Nat) (s : Shared) (Q : Value → Shared → Prop) (E : Value → Shared → Prop), tn i s.heap → Q (.ref it) s → wpAny (model P w) A (pyIter (.ref it)) Q E s
abbrev TI := St → Hp → (It → Hp → Prop) → Prop
def PIE (X : Cx) (pins : List (Addr × Obj)) (σ : St) (tg : Expr) (R : It → Hp → Prop) (itv : Value) (s2 : Shared) : Prop :=
  ∃ (it : Addr) (fp : List Addr) (tn : Nat → Heap → Prop) (J : It) (H' : Hp), itv = .ref it ∧ Inv X pins σ H' s2 ∧ Turn X.prog X.w X.K tg J fp it tn ∧ tn 0 s2.heap ∧ (∀ b ∈ fp, FpOk X pins H' b) ∧ R J H'
def PI (X : Cx) (tg iter : Expr) (wi : TI) : Prop :=
  ∀ (pins : List (Addr × Obj)) (s : Shared) (σ : St) (H : Hp) (R : It → Hp → Prop), Inv X pins σ H s → wi σ H R →
    wpAny (model X.prog X.w) X.A (eval iter X.env) (fun v s1 => wpAny (model X.prog X.w) X.A (pyIter v) (PIE X pins σ tg R) X.xe s1) X.xe s
theorem go_of {M : Model} {A : Around} {E : Value → Shared → Prop} {s : Shared} {tg : Expr} {it : Addr} {u : Value} {o : Obj} {n : String} {vs : Array Value} {Q : Unit → Shared → Prop} (ho : s.heap.get? it = some o) (hc : o.cls = .type n) (hd : o.data = .fields vs)
    (hn : ["enumerate", "zip", "dict_itemiterator", "dict_reverseitemiterator", "odict_iterator", "itertools.zip_longest", "itertools.pairwise"].contains n = false) (hQ : Q () s) : wpAny M A (letOwnedTupleGo tg (.ref it) u) Q E s := by
  unfold letOwnedTupleGo
  cases tg <;> first
    | exact wpAny_pure hQ
    | (cases u <;> first
        | exact wpAny_pure hQ
        | (refine wpAny_bind (wpAny_load ho ?_)
           rw [hc, hd]
           show wpAny M A (if (["enumerate", "zip", "dict_itemiterator", "dict_reverseitemiterator", "odict_iterator", "itertools.zip_longest", "itertools.pairwise"].contains n && vs[0]? == some (rawInt _)) = true then _ else _) Q E s
           rw [if_neg (by intro h; rw [hn, Bool.false_and] at h; cases h)]
           exact wpAny_pure hQ))
def Itl (K : PySem.W.Frag) (a : Addr) : It :=
  ⟨fun i H => ∃ xs x, SqL K H a xs ∧ xs[i]? = some x, fun i H x H' => H' = H ∧ ∀ xs, SqL K H a xs → xs[i]? = some x, fun i H => ∃ xs, SqL K H a xs ∧ xs.length ≤ i⟩
def Itt (K : PySem.W.Frag) (a : Addr) : It :=
  ⟨fun i H => ∃ xs x, SqT K H a xs ∧ xs[i]? = some x, fun i H x H' => H' = H ∧ ∀ xs, SqT K H a xs → xs[i]? = some x, fun i H => ∃ xs, SqT K H a xs ∧ xs.length ≤ i⟩
def Itr (lo : Int) (n : Nat) : It := ⟨fun i _ => i < n, fun i H x H' => H' = H ∧ x = .int (lo + i), fun i _ => n ≤ i⟩
theorem turn_list {P : Program} {w : World} {K : PySem.W.Frag} {tg : Expr} (a it : Addr) : Turn P w K tg (Itl K a) [it] it (fun i h => h.IsListIter it a i) where
  mem := by simp
  obj := fun i h st b hb => by
    have e : b = it := by simpa using hb
    subst e
    obtain ⟨o, e, c, d⟩ := st
    exact ⟨o, e, fun v z => by rw [d] at z; cases z⟩
  keep := fun i h h' st k => st.at fun o e => k it (by simp) o e
  item := by
    intro X hP hw hK hc i pins s σ H E I hf st hg
    subst hP hw hK
    obtain ⟨xs, x, hq, hx⟩ := hg
    obtain ⟨its, rv, p, hz⟩ := I.list hq
    obtain ⟨u, hu, ru⟩ := rv.get hx
    obtain ⟨f0, f1, f2, f3, f4, f5⟩ := hf it (by simp)
    refine wpAny_pyNext_list_item st p.isList (x := u) (by simpa using hu) fun h' st' sb => ?_
    have I1 : Inv X pins σ H { s with heap := h' } := I.turned (t' := s.toks) (fun b o hb e => (sb.2 b hb).trans e) f0 f1 f3 f4 f5
    obtain ⟨o, e, c, d⟩ := id st'
    exact ⟨u, rfl, go_of (s := { s with heap := h' }) e c d (by decide) ⟨x, H, I1, ru, ⟨rfl, fun ys hy => by rw [I.list_inj hy hq]; exact hx⟩, st', fun b hb => (hf b hb).1⟩⟩
  done := by
    intro X hP hw hK hc i pins s σ H E I hf st hg
    subst hP hw hK
    obtain ⟨xs, hq, hx⟩ := hg
    obtain ⟨its, rv, p, hz⟩ := I.list hq
    obtain ⟨f0, f1, f2, f3, f4, f5⟩ := hf it (by simp)
    have hl := rv.length
    exact wpAny_pyNext_list_end (I.ok.hd hc) st p.isList (by simp; omega) fun h' eb => ⟨rfl, I.turned (t' := s.toks) (fun b o hb e => eb b o hb e) f0 f1 f3 f4 f5⟩
  self := fun _ _ _ _ _ st h => wpAny_pyIter_listiter st h
theorem turn_tuple {P : Program} {w : World} {K : PySem.W.Frag} {tg : Expr} (a it : Addr) : Turn P w K tg (Itt K a) [it] it (fun i h => h.IsTupleIter it a i) where
  mem := by simp
  obj := fun i h st b hb => by
    have e : b = it := by simpa using hb
    subst e
    obtain ⟨o, e, c, d⟩ := st
    exact ⟨o, e, fun v z => by rw [d] at z; cases z⟩
  keep := fun i h h' st k => st.at fun o e => k it (by simp) o e
  item := by
    intro X hP hw hK hc i pins s σ H E I hf st hg
    subst hP hw hK
    obtain ⟨xs, x, hq, hx⟩ := hg
    obtain ⟨its, rv, p, hz⟩ := I.tuple hq
    obtain ⟨u, hu, ru⟩ := rv.get hx
    obtain ⟨f0, f1, f2, f3, f4, f5⟩ := hf it (by simp)
    refine wpAny_pyNext_tuple_item st (show s.heap.IsTuple a its.toArray from p) (x := u) (by simpa using hu) fun h' st' sb => ?_
    have I1 : Inv X pins σ H { s with heap := h' } := I.turned (t' := s.toks) (fun b o hb e => (sb.2 b hb).trans e) f0 f1 f3 f4 f5
    obtain ⟨o, e, c, d⟩ := id st'
    exact ⟨u, rfl, go_of (s := { s with heap := h' }) e c d (by decide) ⟨x, H, I1, ru, ⟨rfl, fun ys hy => by rw [I.tuple_inj hy hq]; exact hx⟩, st', fun b hb => (hf b hb).1⟩⟩
  done := by
    intro X hP hw hK hc i pins s σ H E I hf st hg
    subst hP hw hK
    obtain ⟨xs, hq, hx⟩ := hg
    obtain ⟨its, rv, p, hz⟩ := I.tuple hq
    obtain ⟨f0, f1, f2, f3, f4, f5⟩ := hf it (by simp)
    have hl := rv.length
    exact wpAny_pyNext_tuple_end (I.ok.hd hc) st (show s.heap.IsTuple a its.toArray from p) (by simp; omega) fun h' eb => ⟨rfl, I.turned (t' := s.toks) (fun b o hb e => eb b o hb e) f0 f1 f3 f4 f5⟩
  self := fun _ _ _ _ _ st h => wpAny_pyIter_tupleiter st h
theorem turn_range {P : Program} {w : World} {K : PySem.W.Frag} {tg : Expr} (it : Addr) (lo : Int) (n : Nat) : Turn P w K tg (Itr lo n) [it] it (fun i h => IsRangeIter h it (lo + (i : Nat) * 1) ((n : Int) - (i : Nat)) 1) where
  mem := by simp
  obj := fun i h st b hb => by
    have e : b = it := by simpa using hb
    subst e
    exact ⟨_, st, fun v z => by
      have z' : Data.fields _ = Data.cell v := z
      cases z'⟩
  keep := fun i h h' st k => k it (by simp) _ st
  item := by
    intro X hP hw hK hc i pins s σ H E I hf st hg
    subst hP hw hK
    obtain ⟨f0, f1, f2, f3, f4, f5⟩ := hf it (by simp)
    have W := Walks.range (prog := X.prog) (w := X.w) (I.ok.hd hc) it lo 1 n
    refine W.item i s _ _ hg st fun v h' tk hv st' kk => ?_
    obtain ⟨t, rfl⟩ := hv
    have I1 : Inv X pins σ H { s with heap := h', toks := tk } := I.turned (fun b o hb e => kk b o (by simpa using hb) e) f0 f1 f3 f4 f5
    refine ⟨_, rfl, go_of (s := { s with heap := h', toks := tk }) (n := "range_iterator") st' rfl rfl (by decide) ⟨.int (lo + i), H, I1, ⟨t, ?_⟩, ⟨rfl, rfl⟩, st', fun b hb => (hf b hb).1⟩⟩
    rw [Int.mul_one]
  done := by
    intro X hP hw hK hc i pins s σ H E I hf st hg
    subst hP hw hK
    obtain ⟨f0, f1, f2, f3, f4, f5⟩ := hf it (by simp)
    exact wpAny_pyNext_range_end (I.ok.hd hc) st (by have : n ≤ i := hg; omega) fun h' eb => ⟨rfl, I.turned (t' := s.toks) (fun b o hb e => eb b o hb e) f0 f1 f3 f4 f5⟩
  self := fun _ _ _ _ _ st h => wpAny_pyIter_rangeiter st h
end L2
namespace L2
open PySem PySem.Spec PyProof.Rows
section
variable {X : Cx} {tg : Expr}
def iList (K : PySem.W.Frag) (tl : TE) : TI := fun σ H R => tl σ H fun x H1 => ∃ a, x = .ref a ∧ (∃ xs, SqL K H1 a xs) ∧ R (Itl K a) H1
def iTup (K : PySem.W.Frag) (tl : TE) : TI := fun σ H R => tl σ H fun x H1 => ∃ a, x = .ref a ∧ (∃ xs, SqT K H1 a xs) ∧ R (Itt K a) H1
theorem pi_list {l : Expr} {tl : TE} (hl : PE X l tl) : PI X tg l (iList X.K tl) := by
  intro pins s σ H R I h
  refine thn (hl pins s σ H _ I h) fun v s1 ⟨x, H1, I1, r1, q1⟩ => ?_
  obtain ⟨a, e, ⟨xs, hq⟩, q⟩ := q1
  subst e
  cases r1
  obtain ⟨its, rv, p, hz⟩ := I1.list hq
  refine wpAny_pyIter_list p.isList ?_
  refine ⟨s1.heap.objs.size, [s1.heap.objs.size], _, _, H1, rfl, I1.kept (t' := s1.toks) fun b o e => Heap.get?_push_of_some _ e, turn_list a _, ⟨_, Heap.get?_push_size _ rfl, rfl, rfl⟩, fun b hb => ?_, q⟩
  have e : b = s1.heap.objs.size := by simpa using hb
  subst e
  exact I1.fpOk (Nat.le_refl _) (I1.hok.fresh (Nat.le_refl _))
theorem pi_tup {l : Expr} {tl : TE} (hl : PE X l tl) : PI X tg l (iTup X.K tl) := by
  intro pins s σ H R I h
  refine thn (hl pins s σ H _ I h) fun v s1 ⟨x, H1, I1, r1, q1⟩ => ?_
  obtain ⟨a, e, ⟨xs, hq⟩, q⟩ := q1
  subst e
  cases r1
  obtain ⟨its, rv, p, hz⟩ := I1.tuple hq
  refine wpAny_pyIter_tuple (show s1.heap.IsTuple a its.toArray from p) ?_
  refine ⟨s1.heap.objs.size, [s1.heap.objs.size], _, _, H1, rfl, I1.kept (t' := s1.toks) fun b o e => Heap.get?_push_of_some _ e, turn_tuple a _, ⟨_, Heap.get?_push_size _ rfl, rfl, rfl⟩, fun b hb => ?_, q⟩
  have e : b = s1.heap.objs.size := by simpa using hb
  subst e
  exact I1.fpOk (Nat.le_refl _) (I1.hok.fresh (Nat.le_refl _))
theorem range_it {pins : List (Addr × Obj)} {σ : St} {H : Hp} {s : Shared} {R : It → Hp → Prop} {E : Value → Shared → Prop} {lo hi : Int} {t u v : Tok} {tk : Nat} (I : Inv X pins σ H s) (h1 : -(2 ^ 62) ≤ lo) (h2 : lo < 2 ^ 62) (h3 : -(2 ^ 62) ≤ hi) (h4 : hi < 2 ^ 62)
    (q : R (Itr lo (hi - lo).toNat) H) : wpAny (model X.prog X.w) X.A (pyIter (.ref s.heap.objs.size)) (PIE X pins σ tg R) E { s with heap := s.heap.push { cls := .type "range", data := .fields #[.int lo t, .int hi u, .int 1 v] }, toks := tk } := by
  refine wpAny_pyIter_range (IsRange.new ..) (small_one h1 h2 h3 h4) ?_
  have I1 : Inv X pins σ H { s with heap := s.heap.push { cls := .type "range", data := .fields #[.int lo t, .int hi u, .int 1 v] }, toks := tk } := I.kept fun b o e => Heap.get?_push_of_some _ e
  refine ⟨(s.heap.push { cls := .type "range", data := .fields #[.int lo t, .int hi u, .int 1 v] }).objs.size, [(s.heap.push { cls := .type "range", data := .fields #[.int lo t, .int hi u, .int 1 v] }).objs.size], _, _, H, rfl,
    I1.kept (t' := tk) fun b o e => Heap.get?_push_of_some _ e, turn_range _ lo (hi - lo).toNat, ?_, fun b hb => ?_, q⟩
  · have e1 : lo + ((0 : Nat) : Int) * 1 = lo := by simp
    have e2 : (((hi - lo).toNat : Nat) : Int) - ((0 : Nat) : Int) = Builtin.Range.rangeSize lo hi 1 := by rw [rangeSize_one]; split <;> omega
    show IsRangeIter _ _ (lo + ((0 : Nat) : Int) * 1) ((((hi - lo).toNat : Nat) : Int) - ((0 : Nat) : Int)) 1
    rw [e1, e2]
    exact Heap.get?_push_size _ rfl
  · have e : b = (s.heap.push { cls := .type "range", data := .fields #[.int lo t, .int hi u, .int 1 v] }).objs.size := by simpa using hb
    subst e
    exact I1.fpOk (Nat.le_refl _) (I1.hok.fresh (Nat.le_refl _))
def iRng1 (ta : TA) : TI := fun σ H R => ta σ H fun vs H1 => ∃ j : Int, vs = [.int j] ∧ -(2 ^ 62) ≤ j ∧ j < 2 ^ 62 ∧ R (Itr 0 j.toNat) H1
theorem pi_range1 {a : Expr} {ta : TA} {p pos : Pos} (hg : Gl X "range") (hm : X.mg "range" = none) (ha : PA X [a] ta) (hs : starEach [a] X.env = [(false, eval a X.env)] := by rfl) : PI X tg (.Call (.Name "range" p) [a] [] pos) (iRng1 ta) := by
  intro pins s σ H R I h
  refine Call_ (ld_blt I hg hm boot_range (PyProof.Rows.callWith_type1 (thn (ha pos pins s σ H _ I h) fun us s1 ⟨vs, H1, I1, r1, q1⟩ => ?_) hs rfl))
  obtain ⟨j, e, q1, q2, q⟩ := q1
  subst e
  cases r1 with
  | cons r rr =>
    cases rr
    obtain ⟨t, rfl⟩ := r
    exact call_range_1 (range_it I1 (by omega) (by omega) q1 q2 (by simpa using q))
def tFor (wi : TI) (g : TG) (tb : TS) : TS := fun D σ H => wi σ H fun J H1 => ∃ W : Nat → Nat → St → Hp → Prop, (∃ m, W 0 m σ H1) ∧ ∀ i m σ H, W i m σ H →
  (J.stop i H ∧ D.nx σ H) ∨ (J.go i H ∧ ∃ N : St → Hp → Prop, (∀ σ' H', N σ' H' → ∃ m', m' < m ∧ W (i + 1) m' σ' H') ∧ ∀ x H', J.yld i H x H' → g x σ H' fun σ2 H2 => tb { D with nx := N, ct := N, bk := D.nx } σ2 H2)
def pinsAt (fp : List Addr) (h : Heap) : List (Addr × Obj) := fp.filterMap fun b => (h.get? b).map fun o => (b, o)
theorem mem_pinsAt {fp : List Addr} {h : Heap} {b : Addr} {o : Obj} (hb : b ∈ fp) (e : h.get? b = some o) : (b, o) ∈ pinsAt fp h := List.mem_filterMap.mpr ⟨b, hb, by rw [e]; rfl⟩
theorem of_pinsAt {fp : List Addr} {h : Heap} {p : Addr × Obj} (hp : p ∈ pinsAt fp h) : p.1 ∈ fp ∧ h.get? p.1 = some p.2 := by
  obtain ⟨b, hb, e⟩ := List.mem_filterMap.mp hp
  cases q : h.get? b with
  | none => rw [q] at e; cases e
  | some o =>
    rw [q] at e
    have e' : (b, o) = p := Option.some.inj e
    subst e'
    exact ⟨hb, q⟩
theorem Inv.pinned {pins : List (Addr × Obj)} {σ : St} {H : Hp} {s : Shared} {fp : List Addr} (I : Inv X pins σ H s) (hf : ∀ b ∈ fp, FpOk X pins H b) (ho : ∀ b ∈ fp, ∃ o, s.heap.get? b = some o ∧ ∀ v, o.data ≠ .cell v) : Inv X (pins ++ pinsAt fp s.heap) σ H s :=
  I.pins_of fun p hp => (List.mem_append.mp hp).elim (fun z => I.pin p (List.mem_append_right _ z)) fun z => by
    obtain ⟨hb, e⟩ := of_pinsAt z
    obtain ⟨f0, f1, f2, _⟩ := hf p.1 hb
    obtain ⟨o, e', d⟩ := ho p.1 hb
    rw [e] at e'; cases e'
    exact ⟨e, f0, f1, f2, d⟩
theorem Inv.unpinned {pins pl : List (Addr × Obj)} {σ : St} {H : Hp} {s : Shared} (I : Inv X (pins ++ pl) σ H s) : Inv X pins σ H s := I.pins_of fun p hp => I.pin p (List.mem_append_right _ (List.mem_append_left _ hp))
theorem ps_for {iter : Expr} {body : List Stmt} {wi : TI} {g : TG} {tb : TS} {pos : Pos} (hp : PassesOwn (model X.prog X.w) X.A X.env X.xe) (hc : X.calm = true) (hi : PI X tg iter wi) (hg : PG X tg g) (hb : PSs X body tb)
    (hs : ∀ x, foldedSetIterable iter X.env x = pure x := by intro _; rfl) : PS X (.For tg iter body [] pos) (tFor wi g tb) := by
  intro pins s σ H D I h
  refine wpAny_For (thn (hi pins s σ H _ I h) fun v s1 h1 => thn h1 fun itv s2 h2 => ?_) hs
  obtain ⟨it, fp, tn, J, H2, e, I2, T, st2, f2, W, ⟨m0, w0⟩, turn⟩ := h2
  subst e
  have stat : ∀ {H' : Hp}, (∀ b ∈ fp, H' b = none) → ∀ b ∈ fp, FpOk X pins H' b := fun hn b hb => ⟨hn b hb, (f2 b hb).2⟩
  refine codeAny_forLoop_any (fun n s' => ∃ i σ' H', Inv X pins σ' H' s' ∧ tn i s'.heap ∧ (∀ b ∈ fp, H' b = none) ∧ W i n σ' H') ?_ m0 ⟨0, σ, H2, I2, st2, fun b hb => (f2 b hb).1, w0⟩
  rintro n s3 ⟨i, σ3, H3, I3, st3, fr3, w3⟩
  rcases turn i n σ3 H3 w3 with ⟨stop, qn⟩ | ⟨go, N, hN, step⟩
  · refine wpAny_passesOwn hp (thn (T.done X rfl rfl rfl hc i pins s3 σ3 H3 X.xe I3 (stat fr3) st3 stop) fun r s4 ⟨hr, I4⟩ => ?_)
    subst hr
    exact wpAny_execs_nil ⟨σ3, H3, I4, qn⟩
  · refine wpAny_passesOwn hp (thn (T.item X rfl rfl rfl hc i pins s3 σ3 H3 X.xe I3 (stat fr3) st3 go) fun r s4 ⟨u, hr, h4⟩ => ?_)
    subst hr
    refine wpAny_passesOwn hp (thn h4 fun _ s5 ⟨x, H5, I5, r5, y5, st5, fr5⟩ => ?_)
    have I5' := I5.pinned (stat fr5) (T.obj _ _ st5)
    refine wpAny_passesOwn hp (thn (hg _ s5 σ3 H5 x u _ I5' r5 (step x H5 y5)) fun _ s6 ⟨σ6, H6, I6, q6⟩ => ?_)
    refine wpAny_passesOwn hp (thn (hb _ s6 σ6 H6 _ I6 q6) fun f s7 q7 => ?_)
    have again : ∀ {σ7 : St} {H7 : Hp}, Inv X (pins ++ pinsAt fp s5.heap) σ7 H7 s7 → N σ7 H7 → ∃ m, m < n ∧ ∃ i σ' H', Inv X pins σ' H' s7 ∧ tn i s7.heap ∧ (∀ b ∈ fp, H' b = none) ∧ W i m σ' H' := fun {σ7 H7} I7 n7 => by
      obtain ⟨m', hm, w7⟩ := hN σ7 H7 n7
      refine ⟨m', hm, i + 1, σ7, H7, I7.unpinned, T.keep _ _ _ st5 fun b hb o e => (I7.pin (b, o) (List.mem_append_right _ (List.mem_append_right _ (mem_pinsAt hb e)))).1, fun b hb => ?_, w7⟩
      obtain ⟨o, e, d⟩ := T.obj _ _ st5 b hb
      exact (I7.pin (b, o) (List.mem_append_right _ (List.mem_append_right _ (mem_pinsAt hb e)))).2.1
    cases f with
    | next => obtain ⟨σ7, H7, I7, n7⟩ := q7; exact again I7 n7
    | cont => obtain ⟨σ7, H7, I7, n7⟩ := q7; exact again I7 n7
    | brk => obtain ⟨σ7, H7, I7, q7⟩ := q7; exact ⟨σ7, H7, I7.unpinned, q7⟩
    | ret v => obtain ⟨x7, σ7, H7, I7, r7, q7⟩ := q7; exact ⟨x7, σ7, H7, I7.unpinned, r7, q7⟩
end
end L2
namespace L2
open PySem PySem.Spec PyProof.Rows
abbrev R2 := V → V → Hp → VK → Prop
def OpR (X : Cx) (f : Value → Value → Sem Value) (r : R2) : Prop :=
  ∀ (pins : List (Addr × Obj)) (s : Shared) (σ : St) (H : Hp) (x y : V) (v u : Value) (Q : VK), Inv X pins σ H s → RelV x v → RelV y u → r x y H Q →
    wpAny (model X.prog X.w) X.A (f v u) (EP X pins σ Q) X.xe s
def UnR (X : Cx) (f : Value → Sem Value) (r : V → Hp → VK → Prop) : Prop :=
  ∀ (pins : List (Addr × Obj)) (s : Shared) (σ : St) (H : Hp) (x : V) (v : Value) (Q : VK), Inv X pins σ H s → RelV x v → r x H Q →
    wpAny (model X.prog X.w) X.A (f v) (EP X pins σ Q) X.xe s
def CallR (X : Cx) (f : Value) (r : List V → Hp → VK → Prop) : Prop :=
  ∀ (pins : List (Addr × Obj)) (s : Shared) (σ : St) (H : Hp) (xs : List V) (us : List Value) (Q : VK), Inv X pins σ H s → Vals xs us → r xs H Q →
    wpAny (model X.prog X.w) X.A (call f us) (EP X pins σ Q) X.xe s
def tOp (r : R2) (ta tb : TE) : TE := fun σ H Q => ta σ H fun x H1 => tb σ H1 fun y H2 => r x y H2 Q
def tUn (r : V → Hp → VK → Prop) (ta : TE) : TE := fun σ H Q => ta σ H fun x H1 => r x H1 Q
def rI (C : Int → Int → Prop) (g : Int → Int → V) : R2 := fun x y H Q => ∃ i j, x = .int i ∧ y = .int j ∧ C i j ∧ Q (g i j) H
def rI0 (g : Int → Int → V) : R2 := fun x y H Q => ∃ i j, x = .int i ∧ y = .int j ∧ Q (g i j) H
def rU (g : Int → V) : V → Hp → VK → Prop := fun x H Q => ∃ i, x = .int i ∧ Q (g i) H
section
variable {X : Cx} {a b c : Expr} {ta tb tc : TE} {pos : Pos}
theorem binT (ha : PE X a ta) (hb : PE X b tb) {pins : List (Addr × Obj)} {s : Shared} {σ : St} {H : Hp} {R : V → V → Hp → Prop} (I : Inv X pins σ H s)
    (h : ta σ H fun x H1 => tb σ H1 fun y H2 => R x y H2) {Q : Value → Shared → Prop} {f : Value → Value → Sem Value}
    (hf : ∀ v u s2 x y H2, Inv X pins σ H2 s2 → RelV x v → RelV y u → R x y H2 → wpAny (model X.prog X.w) X.A (f v u) Q X.xe s2) :
    wpAny (model X.prog X.w) X.A (eval a X.env) (fun v s₁ => wpAny (model X.prog X.w) X.A (eval b X.env) (fun u s₂ => wpAny (model X.prog X.w) X.A (f v u) Q X.xe s₂) X.xe s₁) X.xe s := by
  refine thn (ha pins s σ H _ I h) fun v s1 ⟨x, H1, I1, r1, q1⟩ => ?_
  refine thn (hb pins s1 σ H1 _ I1 q1) fun u s2 ⟨y, H2, I2, r2, q2⟩ => ?_
  exact hf v u s2 x y H2 I2 r1 r2 q2
theorem pe_op {op : Operator} {r : R2} (ho : OpR X (binaryOp op) r) (ha : PE X a ta) (hb : PE X b tb) : PE X (.BinOp a op b pos) (tOp r ta tb) := by
  intro pins s σ H Q I h
  exact wpAny_BinOp (binT ha hb I h fun v u s2 x y H2 I2 rx ry q => ho pins s2 σ H2 x y v u Q I2 rx ry q)
theorem pe_un {op : UnaryOp} {r : V → Hp → VK → Prop} (ho : UnR X (unaryOp op) r) (ha : PE X a ta) : PE X (.UnaryOp op a pos) (tUn r ta) := by
  intro pins s σ H Q I h
  exact UnaryOp_ (thn (ha pins s σ H _ I h) fun v s1 ⟨x, H1, I1, r1, q1⟩ => ho pins s1 σ H1 x v Q I1 r1 q1)
theorem opI {f : Value → Value → Sem Value} {C : Int → Int → Prop} {g : Int → Int → Int}
    (rule : ∀ (i j : Int) (t u : Tok) (s : Shared) (Q : Value → Shared → Prop) (E : Value → Shared → Prop), C i j → Q (.int (g i j) s.toks) { s with toks := s.toks + 1 } → wpAny (model X.prog X.w) X.A (f (.int i t) (.int j u)) Q E s) :
    OpR X f (rI C fun i j => .int (g i j)) := by
  intro pins s σ H x y v u Q I rx ry h
  obtain ⟨i, j, rfl, rfl, hc, q⟩ := h
  obtain ⟨t, rfl⟩ := rx
  obtain ⟨t', rfl⟩ := ry
  exact rule i j t t' s _ _ hc ⟨.int (g i j), H, I.tok _, ⟨_, rfl⟩, q⟩
theorem opI0 {f : Value → Value → Sem Value} {g : Int → Int → Int}
    (rule : ∀ (i j : Int) (t u : Tok) (s : Shared) (Q : Value → Shared → Prop) (E : Value → Shared → Prop), Q (.int (g i j) s.toks) { s with toks := s.toks + 1 } → wpAny (model X.prog X.w) X.A (f (.int i t) (.int j u)) Q E s) :
    OpR X f (rI0 fun i j => .int (g i j)) := by
  intro pins s σ H x y v u Q I rx ry h
  obtain ⟨i, j, rfl, rfl, q⟩ := h
  obtain ⟨t, rfl⟩ := rx
  obtain ⟨t', rfl⟩ := ry
  exact rule i j t t' s _ _ ⟨.int (g i j), H, I.tok _, ⟨_, rfl⟩, q⟩
theorem opB0 {f : Value → Value → Sem Value} {g : Int → Int → Bool}
    (rule : ∀ (i j : Int) (t u : Tok) (s : Shared) (Q : Value → Shared → Prop) (E : Value → Shared → Prop), Q (.bool (g i j)) s → wpAny (model X.prog X.w) X.A (f (.int i t) (.int j u)) Q E s) :
    OpR X f (rI0 fun i j => .bl (g i j)) := by
  intro pins s σ H x y v u Q I rx ry h
  obtain ⟨i, j, rfl, rfl, q⟩ := h
  obtain ⟨t, rfl⟩ := rx
  obtain ⟨t', rfl⟩ := ry
  exact rule i j t t' s _ _ ⟨.bl (g i j), H, I, rfl, q⟩
def CDiv (i j : Int) : Prop := 0 < j ∧ j < 1073741824
def CPow (i j : Int) : Prop := 0 ≤ j ∧ j ≤ 1000000 ∧ i.natAbs < 2 ^ 64
def CMul (i j : Int) : Prop := (-(2 ^ 64) < i ∧ i < 2 ^ 64) ∨ (-(2 ^ 64) < j ∧ j < 2 ^ 64)
theorem CMul.ok {i j : Int} (h : CMul i j) : IntMulOk i j := by
  rcases h with ⟨h1, h2⟩ | ⟨h1, h2⟩
  · exact .of_left (intBits_le_64 h1 h2)
  · exact .of_right (intBits_le_64 h1 h2)
theorem op_add : OpR X (binaryOp .Add) (rI0 fun i j => .int (i + j)) := opI0 fun _ _ _ _ _ _ _ q => add_int q
theorem op_sub : OpR X (binaryOp .Sub) (rI0 fun i j => .int (i - j)) := opI0 fun _ _ _ _ _ _ _ q => sub_int q
theorem op_mul : OpR X (binaryOp .Mult) (rI CMul fun i j => .int (i * j)) := opI fun _ _ _ _ _ _ _ hc q => mul_int q hc.ok
theorem op_fdiv : OpR X (binaryOp .FloorDiv) (rI CDiv fun i j => .int (i / j)) := opI fun i j _ _ _ _ _ hc q => by
  have h1 : (0 : Int) < j := hc.1
  have h2 : j < 1073741824 := hc.2
  exact floordiv_int (by omega) (by rw [Int.fdiv_eq_ediv_of_nonneg i (by omega)]; exact q) (.inl (PyProof.noPylong_small (by omega)))
theorem op_mod : OpR X (binaryOp .Mod) (rI (fun _ j => 0 < j) fun i j => .int (i % j)) := opI fun i j _ _ _ _ _ hc q => by
  have h1 : (0 : Int) < j := hc
  exact mod_int' (by omega) (by rw [Int.fmod_eq_emod_of_nonneg i (by omega)]; exact q)
theorem op_pow : OpR X (binaryOp .Pow) (rI CPow fun i j => .int (i ^ j.toNat)) := opI fun _ _ _ _ _ _ _ hc q => pow_int_small hc.1 hc.2.1 hc.2.2 q
theorem unI {f : Value → Sem Value} {g : Int → Int}
    (rule : ∀ (i : Int) (t : Tok) (s : Shared) (Q : Value → Shared → Prop) (E : Value → Shared → Prop), Q (.int (g i) s.toks) { s with toks := s.toks + 1 } → wpAny (model X.prog X.w) X.A (f (.int i t)) Q E s) :
    UnR X f (rU fun i => .int (g i)) := by
  intro pins s σ H x v Q I rx h
  obtain ⟨i, rfl, q⟩ := h
  obtain ⟨t, rfl⟩ := rx
  exact rule i t s _ _ ⟨.int (g i), H, I.tok _, ⟨_, rfl⟩, q⟩
theorem un_neg : UnR X (unaryOp .USub) (rU fun i => .int (-i)) := unI fun _ _ _ _ _ q => neg_int q
end
def scal : V → V → Bool
  | .non, .non => true | .non, .int _ => true | .int _, .non => true | .non, .bl _ => true | .bl _, .non => true | .non, .str _ => true | .str _, .non => true
  | .int _, .int _ => true | .bl _, .bl _ => true | .str _, .str _ => true | .byt _, .byt _ => true
  | .int _, .str _ => true | .str _, .int _ => true | .bl _, .str _ => true | .str _, .bl _ => true
  | _, _ => false
def rEq : R2 := fun x y H Q => scal x y = true ∧ Q (.bl (decide (x = y))) H
def rNe : R2 := fun x y H Q => scal x y = true ∧ Q (.bl (!decide (x = y))) H
theorem dec_int {i j : Int} : decide (V.int i = V.int j) = (i == j) := by
  rw [Bool.eq_iff_iff]
  simp
theorem dec_bl {i j : Bool} : decide (V.bl i = V.bl j) = (i == j) := by
  rw [Bool.eq_iff_iff]
  simp
theorem dec_str {i j : Str} : decide (V.str i = V.str j) = (i == j) := by
  rw [Bool.eq_iff_iff]
  simp
theorem dec_byt {i j : Array UInt8} : decide (V.byt i = V.byt j) = (i.toList == j.toList) := by
  rw [Bool.eq_iff_iff]
  cases i
  cases j
  simp
section
variable {X : Cx} {a b c : Expr} {ta tb tc : TE} {pos : Pos}
theorem fin_bl {pins : List (Addr × Obj)} {σ : St} {H : Hp} {s : Shared} {Q : VK} {k k' : Bool} (I : Inv X pins σ H s) (q : Q (.bl k) H) (e : k = k') : EP X pins σ Q (.bool k') s := by
  subst e
  exact ⟨.bl k, H, I, rfl, q⟩
theorem op_eq : OpR X (compareOp .Eq) rEq := by
  intro pins s σ H x y v u Q I rx ry h
  obtain ⟨hs, q⟩ := h
  cases x with
  | non =>
    cases rx
    cases y with
    | non => cases ry; exact PySem.EqNone.eq_none_none (fin_bl I q (by simp))
    | bl j => cases ry; exact PySem.EqNone.eq_none_bool (fin_bl I q (by simp))
    | int j => obtain ⟨t', rfl⟩ := ry; exact PySem.EqNone.eq_none_int (fin_bl I q (by simp))
    | str j => obtain ⟨t', rfl⟩ := ry; exact PySem.EqNone.eq_none_str (fin_bl I q (by simp))
    | _ => exact absurd (show false = true from hs) Bool.false_ne_true
  | bl i =>
    cases rx
    cases y with
    | non => cases ry; exact PySem.EqNone.eq_bool_none (fin_bl I q (by simp))
    | bl j => cases ry; exact eq_bool (fin_bl I q dec_bl)
    | str j => obtain ⟨t', rfl⟩ := ry; exact PySem.EqMixed.eq_bool_str (fin_bl I q (by simp))
    | _ => exact absurd (show false = true from hs) Bool.false_ne_true
  | int i =>
    obtain ⟨t, rfl⟩ := rx
    cases y with
    | non => cases ry; exact PySem.EqNone.eq_int_none (fin_bl I q (by simp))
    | int j => obtain ⟨t', rfl⟩ := ry; exact eq_int (fin_bl I q dec_int)
    | str j => obtain ⟨t', rfl⟩ := ry; exact PySem.EqMixed.eq_int_str (fin_bl I q (by simp))
    | _ => exact absurd (show false = true from hs) Bool.false_ne_true
  | str i =>
    obtain ⟨t, rfl⟩ := rx
    cases y with
    | non => cases ry; exact PySem.EqNone.eq_str_none (fin_bl I q (by simp))
    | bl j => cases ry; exact PySem.EqMixed.eq_str_bool (fin_bl I q (by simp))
    | int j => obtain ⟨t', rfl⟩ := ry; exact PySem.EqMixed.eq_str_int (fin_bl I q (by simp))
    | str j => obtain ⟨t', rfl⟩ := ry; exact eq_str (fin_bl I q dec_str)
    | _ => exact absurd (show false = true from hs) Bool.false_ne_true
  | byt i =>
    obtain ⟨t, rfl⟩ := rx
    cases y with
    | byt j => obtain ⟨t', rfl⟩ := ry; exact PySem.W.eq_bytes (fin_bl I q dec_byt)
    | _ => exact absurd (show false = true from hs) Bool.false_ne_true
  | _ => cases y <;> exact absurd (show false = true from hs) Bool.false_ne_true
theorem op_ne : OpR X (compareOp .NotEq) rNe := by
  intro pins s σ H x y v u Q I rx ry h
  obtain ⟨hs, q⟩ := h
  cases x with
  | non =>
    cases rx
    cases y with
    | non => cases ry; exact PySem.EqNone.ne_none_none (fin_bl I q (by simp))
    | bl j => cases ry; exact PySem.EqNone.ne_none_bool (fin_bl I q (by simp))
    | int j => obtain ⟨t', rfl⟩ := ry; exact PySem.EqNone.ne_none_int (fin_bl I q (by simp))
    | str j => obtain ⟨t', rfl⟩ := ry; exact PySem.EqNone.ne_none_str (fin_bl I q (by simp))
    | _ => exact absurd (show false = true from hs) Bool.false_ne_true
  | bl i =>
    cases rx
    cases y with
    | non => cases ry; exact PySem.EqNone.ne_bool_none (fin_bl I q (by simp))
    | bl j => cases ry; exact ne_bool (fin_bl I q (congrArg not dec_bl))
    | str j => obtain ⟨t', rfl⟩ := ry; exact PySem.EqMixed.ne_bool_str (fin_bl I q (by simp))
    | _ => exact absurd (show false = true from hs) Bool.false_ne_true
  | int i =>
    obtain ⟨t, rfl⟩ := rx
    cases y with
    | non => cases ry; exact PySem.EqNone.ne_int_none (fin_bl I q (by simp))
    | int j => obtain ⟨t', rfl⟩ := ry; exact ne_int (fin_bl I q (congrArg not dec_int))
    | str j => obtain ⟨t', rfl⟩ := ry; exact PySem.EqMixed.ne_int_str (fin_bl I q (by simp))
    | _ => exact absurd (show false = true from hs) Bool.false_ne_true
  | str i =>
    obtain ⟨t, rfl⟩ := rx
    cases y with
    | non => cases ry; exact PySem.EqNone.ne_str_none (fin_bl I q (by simp))
    | bl j => cases ry; exact PySem.EqMixed.ne_str_bool (fin_bl I q (by simp))
    | int j => obtain ⟨t', rfl⟩ := ry; exact PySem.EqMixed.ne_str_int (fin_bl I q (by simp))
    | str j => obtain ⟨t', rfl⟩ := ry; exact ne_str (fin_bl I q (congrArg not dec_str))
    | _ => exact absurd (show false = true from hs) Bool.false_ne_true
  | byt i =>
    obtain ⟨t, rfl⟩ := rx
    cases y with
    | byt j => obtain ⟨t', rfl⟩ := ry; exact PySem.W.ne_bytes (fin_bl I q (congrArg not dec_byt))
    | _ => exact absurd (show false = true from hs) Bool.false_ne_true
  | _ => cases y <;> exact absurd (show false = true from hs) Bool.false_ne_true
theorem op_lt : OpR X (compareOp .Lt) (rI0 fun i j => .bl (decide (i < j))) := opB0 fun _ _ _ _ _ _ _ q => lt_int q
theorem op_le : OpR X (compareOp .LtE) (rI0 fun i j => .bl (decide (i ≤ j))) := opB0 fun _ _ _ _ _ _ _ q => le_int q
theorem op_gt : OpR X (compareOp .Gt) (rI0 fun i j => .bl (decide (j < i))) := opB0 fun _ _ _ _ _ _ _ q => gt_int q
theorem op_ge : OpR X (compareOp .GtE) (rI0 fun i j => .bl (decide (j ≤ i))) := opB0 fun _ _ _ _ _ _ _ q => ge_int q
theorem op_isN : OpR X (compareOp .Is) (fun x y H Q => y = .non ∧ Q (.bl (decide (x = .non))) H) := by
  intro pins s σ H x y v u Q I rx ry h
  obtain ⟨rfl, q⟩ := h
  cases ry
  refine is_none_gen (fin_bl I q ?_)
  cases x <;> first
    | (cases rx; rfl)
    | (obtain ⟨t, rfl⟩ := rx; rfl)
theorem op_notN : OpR X (compareOp .IsNot) (fun x y H Q => y = .non ∧ Q (.bl (!decide (x = .non))) H) := by
  intro pins s σ H x y v u Q I rx ry h
  obtain ⟨rfl, q⟩ := h
  cases ry
  refine isnot_none_gen (fin_bl I q ?_)
  cases x <;> first
    | (cases rx; rfl)
    | (obtain ⟨t, rfl⟩ := rx; rfl)
theorem OpR.or {f : Value → Value → Sem Value} {r r' : R2} (h : OpR X f r) (h' : OpR X f r') : OpR X f (fun x y H Q => r x y H Q ∨ r' x y H Q) := by
  intro pins s σ H x y v u Q I rx ry q
  rcases q with q | q
  · exact h pins s σ H x y v u Q I rx ry q
  · exact h' pins s σ H x y v u Q I rx ry q
theorem nomark (b : Expr) {op : CmpOp} (h : op ≠ .In := by decide) (h2 : op ≠ .NotIn := by decide) : behindInMarks op b = false := by
  have e1 : (op == CmpOp.In) = false := by cases op <;> first | rfl | exact absurd rfl h
  have e2 : (op == CmpOp.NotIn) = false := by cases op <;> first | rfl | exact absurd rfl h2
  cases b <;> simp [behindInMarks, e1, e2]
theorem pe_cmpR {op : CmpOp} {r : R2} (ho : OpR X (compareOp op) r) (ha : PE X a ta) (hb : PE X b tb) (hm : behindInMarks op b = false) : PE X (.Compare a [op] [b] pos) (tOp r ta tb) := by
  intro pins s σ H Q I h
  exact wpAny_Compare1 (binT ha hb I h fun v u s2 x y H2 I2 rx ry q => ho pins s2 σ H2 x y v u Q I2 rx ry q) hm
def tTest (t : TE) : TT := fun σ H Q => t σ H fun x H' => ∃ k, x = .bl k ∧ Q k H'
theorem pt_cmpR {op : CmpOp} {r : R2} (ho : OpR X (compareOp op) r) (ha : PE X a ta) (hb : PE X b tb) (hm : behindInMarks op b = false) : PT X (.Compare a [op] [b] pos) (tTest (tOp r ta tb)) := by
  intro pins s σ H Q I h
  refine wpAny_isTrue_Compare1 (thn (ha pins s σ H _ I h) fun v s1 ⟨x, H1, I1, r1, q1⟩ => thn (hb pins s1 σ H1 _ I1 q1) fun u s2 ⟨y, H2, I2, r2, q2⟩ =>
    thn (ho pins s2 σ H2 x y v u _ I2 r1 r2 q2) fun c s3 ⟨z, H3, I3, r3, k, e, q3⟩ => ?_) hm
  subst e
  cases r3
  exact wpAny_truthy_bool ⟨H3, I3, q3⟩
def tChain (r r' : R2) (ta tb tc : TE) : TE := fun σ H Q => ta σ H fun x H1 => tb σ H1 fun y H2 => r x y H2 fun z H3 => ∃ k, z = .bl k ∧
  (if k = true then tc σ H3 fun w' H4 => r' y w' H4 Q else Q (.bl false) H3)
theorem pe_chain {op op' : CmpOp} {r r' : R2} (ho : OpR X (compareOp op) r) (ho' : OpR X (compareOp op') r') (ha : PE X a ta) (hb : PE X b tb) (hc : PE X c tc)
    (hm : lastMarks [op, op'] [b, c] = false := by with_unfolding_all rfl) : PE X (.Compare a [op, op'] [b, c] pos) (tChain r r' ta tb tc) := by
  intro pins s σ H Q I h
  refine Compare_chain (thn (ha pins s σ H _ I h) fun v s1 ⟨x, H1, I1, r1, q1⟩ => chain_link (thn (hb pins s1 σ H1 _ I1 q1) fun u s2 ⟨y, H2, I2, r2, q2⟩ =>
    thn (ho pins s2 σ H2 x y v u _ I2 r1 r2 q2) fun d s3 ⟨z, H3, I3, r3, k, e, q3⟩ => ?_)) hm
  subst e
  cases r3
  refine wpAny_truthy_bool ?_
  cases k with
  | false => exact ite_ff ⟨.bl false, H3, I3, rfl, q3⟩
  | true => exact ite_tt (chain_last (thn (hc pins s3 σ H3 _ I3 q3) fun w' s4 ⟨z', H4, I4, r4, q4⟩ => ho' pins s4 σ H4 y z' u w' Q I4 r2 r4 q4))
theorem pt_chain {op op' : CmpOp} {r r' : R2} (ho : OpR X (compareOp op) r) (ho' : OpR X (compareOp op') r') (ha : PE X a ta) (hb : PE X b tb) (hc : PE X c tc)
    (hm : lastMarks [op, op'] [b, c] = false := by with_unfolding_all rfl) : PT X (.Compare a [op, op'] [b, c] pos) (tTest (tChain r r' ta tb tc)) := by
  intro pins s σ H Q I h
  refine isTrue_chain (thn (ha pins s σ H _ I h) fun v s1 ⟨x, H1, I1, r1, q1⟩ => test_link (thn (hb pins s1 σ H1 _ I1 q1) fun u s2 ⟨y, H2, I2, r2, q2⟩ =>
    thn (ho pins s2 σ H2 x y v u _ I2 r1 r2 q2) fun d s3 ⟨z, H3, I3, r3, k, e, q3⟩ => ?_)) hm
  subst e
  cases r3
  refine wpAny_truthy_bool ?_
  cases k with
  | false =>
    obtain ⟨k', e', q'⟩ := q3
    cases e'
    exact ite_ff ⟨H3, I3, q'⟩
  | true =>
    refine ite_tt (test_last (thn (hc pins s3 σ H3 _ I3 q3) fun w' s4 ⟨z', H4, I4, r4, q4⟩ => thn (ho' pins s4 σ H4 y z' u w' _ I4 r2 r4 q4) fun d' s5 ⟨z2, H5, I5, r5, k2, e2, q5⟩ => ?_))
    subst e2
    cases r5
    exact wpAny_truthy_bool ⟨H5, I5, q5⟩
theorem line63 : (sizeLine : Nat) < 2 ^ 63 := by rw [sizeLine_eq]; decide
theorem vals1 {x : V} {us : List Value} (r : Vals [x] us) : ∃ u, us = [u] ∧ RelV x u := by
  cases r with
  | cons r1 r2 => cases r2; exact ⟨_, rfl, r1⟩
theorem call_abs : CallR X (.builtin "abs") (fun xs H Q => ∃ i, xs = [.int i] ∧ Q (.int (if i < 0 then -i else i)) H) := by
  intro pins s σ H xs us Q I r h
  obtain ⟨i, rfl, q⟩ := h
  obtain ⟨u, rfl, t, rfl⟩ := vals1 r
  exact call_abs_int fun u tk => ⟨.int (if i < 0 then -i else i), H, I.tok _, ⟨_, rfl⟩, q⟩
end
end L2
namespace L2
open PySem PySem.Spec PyProof.Rows
structure ObjM (h : Heap) (x dx C : Addr) (mA : Str → Option Value) : Prop where
  obj : h.get? x = some (PySem.W.instObj C dx)
  ns : h.Ns1 dx mA
  ne : dx ≠ x
theorem lookIn_ns {h : Heap} {dx : Addr} {mA : Str → Option Value} (n : h.Ns1 dx mA) : ∃ od, h.get? dx = some od ∧ ∀ name, PySem.W.lookIn name od = some (mA name) := by
  obtain ⟨o, es, ep, ho, hd, hk, _, hm⟩ := n
  refine ⟨o, ho, fun name => ?_⟩
  have e := hm name
  unfold nsFind findBy at e
  rw [← Array.find?_toList] at e
  unfold PySem.W.lookIn
  rw [hd]
  dsimp only
  split
  · rename_i y q
    rw [q] at e
    exact congrArg some e
  · rename_i q
    rw [q] at e
    have a : es.toList.any (·.refKey) = false := by
      rw [List.any_eq_false]
      intro y hy
      obtain ⟨z, t, hkey⟩ := hk y (Array.mem_toList_iff.mp hy)
      simp [DictEntry.refKey, hkey]
    have a' : ¬ es.toList.any (·.refKey) = true := by rw [a]; exact Bool.false_ne_true
    rw [if_neg a']
    exact congrArg some e
theorem ObjM.look {h : Heap} {x dx C : Addr} {mA : Str → Option Value} (I : ObjM h x dx C mA) : ∃ od, PySem.W.InstAt h x (PySem.W.instObj C dx) C (some od) ∧ ∀ name, PySem.W.lookIn name od = some (mA name) :=
  let ⟨od, ho, hl⟩ := lookIn_ns I.ns
  ⟨od, ⟨I.obj, rfl, rfl, ho⟩, hl⟩
section
variable {prog : Program} {w : World} {A : Around} {E : Value → Shared → Prop} {s : Shared} {K : PySem.W.Frag} {x dx C f : Addr} {mA : Str → Option Value} {name : Str} {v : Value}
end
section
variable {P : Program} {w : World} {H H' : Hp} {h h' : Heap} {a C dx : Addr} {fs fs' : List (Str × V)}
theorem ins_get (hok : HOk P w H h) (e : H a = some (.ins C dx fs)) : ∃ mA, ObjM h a dx C mA ∧ (∀ f, RelO (fs.lookup f) (mA f)) ∧ PySem.Within mA (fs.map (·.1)) ∧ fs.length ≤ 1000 ∧ H dx = some (.own a) := by
  obtain ⟨d, z, ne, ob, mA, n, r, q⟩ := (show ObjOk P w H h a (.ins C dx fs) from hok a _ e)
  exact ⟨mA, ⟨ob, n, ne⟩, r, q, z, d⟩
end
structure Cls (K : PySem.W.Frag) (C : Addr) : Prop where
  pg : PySem.W.plainGet K C Str.empty = true
  hd : PySem.W.hasDictIn K C = true
  po : PySem.W.plainOver K C = true
  sa : PySem.W.findIn K (.ref C) "__setattr__" = some (some (.builtin "object.__setattr__"))
theorem Cls.get {K : PySem.W.Frag} {C : Addr} (c : Cls K C) (f : Str) : PySem.W.plainGet K C f = true := c.pg
section
variable {X : Cx} {pins : List (Addr × Obj)} {σ : St} {H : Hp} {s : Shared} {a C dx : Addr} {fs : List (Str × V)} {f : Str} {v : V} {A : Around} {E : Value → Shared → Prop}
end
section
variable {X : Cx} {o e value : Expr} {f : Str} {pos pos' tpos : Pos} {ta tv : TE}
end
section
variable {X : Cx} {pins : List (Addr × Obj)} {σ : St} {H : Hp} {s : Shared} {A : Around} {E : Value → Shared → Prop} {Q : Value → Shared → Prop} {c : Value} {b : Bool}
inductive TyOf (K : PySem.W.Frag) (H : Hp) : V → Value → Prop where
  | non : TyOf K H .non (.type "NoneType")
  | bl (x : Bool) : TyOf K H (.bl x) (.type "bool")
  | int (i : Int) : TyOf K H (.int i) (.type "int")
  | str (x : Str) : TyOf K H (.str x) (.type "str")
  | flt (x : UInt64) : TyOf K H (.flt x) (.type "float")
  | lst {a : Addr} {xs : List V} (e : H a = some (.lst xs)) : TyOf K H (.ref a) (.type "list")
  | frz {a : Addr} {o : Obj} {xs : List V} (e : H a = some (.frz o (.lst xs))) : TyOf K H (.ref a) (.type "list")
  | tup {a : Addr} {xs : List V} (e : H a = some (.tup xs)) : TyOf K H (.ref a) (.type "tuple")
  | dK {a : Addr} {kvs : List (Key × V)} (e : H a = some (.dK kvs)) : TyOf K H (.ref a) (.type "dict")
  | dT {a : Addr} {kvs : List (List Key × V)} (e : H a = some (.dT kvs)) : TyOf K H (.ref a) (.type "dict")
  | ins {a C dx : Addr} {fs : List (Str × V)} (e : H a = some (.ins C dx fs)) (cl : Cls K C) (ha : PySem.W.findIn K (.ref C) "__class__" = some (some (.builtin "object.__class__")))
      (hn : PySem.W.specialIn K (.builtin "object.__class__") "__get__" = some (some (.builtin "getset_descriptor.__get__"))) (htk : PySem.W.takesIn K (.builtin "object.__class__") = some true)
      (hm : PySem.W.mroIn K C (.type "object") = some true) : TyOf K H (.ref a) (.ref C)
theorem isinst_ok {x : V} {u t : Value} (I : Inv X pins σ H s) (rx : RelV x u) (ty : TyOf X.K H x t) (e : PySem.W.kitOne X.K t c = some b) (h : ∀ tk, Q (.bool b) { s with toks := tk }) :
    wpAny (model X.prog X.w) A (call (.builtin "isinstance") [u, c]) Q E s := by
  cases ty with
  | non => cases (show u = Value.none from rx); exact PySem.W.kia_one PySem.W.kitx_none I.kIn True.intro e (fun z => nomatch z) h
  | bl y => cases (show u = Value.bool y from rx); exact PySem.W.kia_one PySem.W.kitx_bool I.kIn True.intro e (fun z => nomatch z) h
  | int i => obtain ⟨t, q⟩ := (show ∃ t, u = Value.int i t from rx); cases q; exact PySem.W.kia_one PySem.W.kitx_int I.kIn True.intro e (fun z => nomatch z) h
  | str y => obtain ⟨t, q⟩ := (show ∃ t, u = Value.str y t from rx); cases q; exact PySem.W.kia_one PySem.W.kitx_str I.kIn True.intro e (fun z => nomatch z) h
  | flt y => obtain ⟨t, q⟩ := (show ∃ t, u = Value.float y t from rx); cases q; exact PySem.W.kia_one PySem.W.kitx_float I.kIn True.intro e (fun z => nomatch z) h
  | @lst a xs ea =>
    cases (show u = Value.ref a from rx)
    obtain ⟨_, _, n, _, h1⟩ := (show ObjOk X.prog X.w H s.heap a (.lst xs) from I.hok a _ ea)
    exact PySem.W.kia_one PySem.W.kitx_list I.kIn ⟨_, h1, rfl⟩ e (fun z => nomatch z) h
  | @frz a ob xs ea =>
    cases (show u = Value.ref a from rx)
    obtain ⟨_, _, _, n, _, h1⟩ := (show ObjOk X.prog X.w H s.heap a (.frz ob (.lst xs)) from I.hok a _ ea)
    exact PySem.W.kia_one PySem.W.kitx_list I.kIn ⟨_, h1, rfl⟩ e (fun z => nomatch z) h
  | @tup a xs ea =>
    cases (show u = Value.ref a from rx)
    obtain ⟨_, _, _, p⟩ := (show ObjOk X.prog X.w H s.heap a (.tup xs) from I.hok a _ ea)
    obtain ⟨o, h1, h2, _⟩ := p
    exact PySem.W.kia_one PySem.W.kitx_tuple I.kIn ⟨o, h1, h2⟩ e (fun z => nomatch z) h
  | @dK a kvs ea =>
    cases (show u = Value.ref a from rx)
    obtain ⟨_, _, vs, _, p⟩ := (show ObjOk X.prog X.w H s.heap a (.dK kvs) from I.hok a _ ea)
    obtain ⟨o, es, ep, h1, h2, _⟩ := p
    exact PySem.W.kia_one PySem.W.kitx_dict I.kIn ⟨o, h1, h2.1⟩ e (fun z => nomatch z) h
  | @dT a kvs ea =>
    cases (show u = Value.ref a from rx)
    obtain ⟨_, _, xs, _, o, es, ep, h1, h2, _⟩ := (show ObjOk X.prog X.w H s.heap a (.dT kvs) from I.hok a _ ea)
    exact PySem.W.kia_one PySem.W.kitx_dict I.kIn ⟨o, h1, h2.1⟩ e (fun z => nomatch z) h
  | @ins a C dx fs ea cl ha hn htk hm =>
    cases (show u = Value.ref a from rx)
    obtain ⟨mA, O, _⟩ := ins_get I.hok ea
    obtain ⟨od, J, _⟩ := O.look
    exact PySem.W.kia_one (PySem.W.kitx_own (cl.get _) cl.hd ha hn htk hm) I.kIn J e (fun z => nomatch z) h
end
end L2
namespace L2
open PySem PySem.Spec PyProof.Rows
structure Room (k : Nat) (A : Around) : Prop where
  hd : A.handled = none
  dp : A.depth + 3 * k + 5 < recursionLimit
  un : A.units + 16 * k + 200 < cLine
  gd : A.guards = some []
theorem Room.mono {j k : Nat} {A : Around} (r : Room k A) (h : j ≤ k) : Room j A := ⟨r.hd, by have := r.dp; omega, by have := r.un; omega, r.gd⟩
theorem Room.deeper {k : Nat} {A : Around} (r : Room (k + 1) A) (env : Env) : Room k (A.deeper env) :=
  ⟨r.hd, by have := r.dp; show A.depth + 1 + 3 * k + 5 < _; omega, by have := r.un; show A.units + 3 + 16 * k + 200 < _; omega, r.gd⟩
theorem Room.in1 {k : Nat} {A : Around} (r : Room (k + 1) A) : Room k A.in1 :=
  ⟨r.hd, by have := r.dp; show A.depth + 3 * k + 5 < _; omega, by have := r.un; show A.units + 1 + 16 * k + 200 < _; omega, r.gd⟩
theorem Room.depth {k : Nat} {A : Around} (r : Room k A) : A.depth < recursionLimit := by have := r.dp; omega
theorem Room.units {k : Nat} {A : Around} (r : Room k A) : A.units + 64 < cLine := by have := r.un; omega
def tNil : TA := fun _ H Q => Q [] H
def tCons (ta : TE) (tr : TA) : TA := fun σ H Q => ta σ H fun x H1 => tr σ H1 fun xs H2 => Q (x :: xs) H2
section
variable {X : Cx} {e : Expr} {es : List Expr} {te : TE} {t : TA} {pos : Pos}
theorem pa_nil : PA X [] tNil := fun _ _ _ _ H Q I h => Calls.spliced_nil ⟨[], H, I, .nil, h⟩
theorem pa_cons (ha : PE X e te) (hr : PA X es t) (hs : starEach (e :: es) X.env = (false, eval e X.env) :: starEach es X.env := by rfl) : PA X (e :: es) (tCons te t) := by
  intro pos pins s σ H Q I h
  rw [hs]
  show wpAny _ _ (spliced ((false, eval e X.env) :: backTo pos (starEach es X.env))) _ _ s
  refine Calls.spliced_cons (thn (ha pins s σ H _ I h) fun u s1 ⟨x, H1, I1, r1, q1⟩ => ?_)
  exact thn (hr pos pins s1 σ H1 _ I1 q1) fun us s2 ⟨xs, H2, I2, r2, q2⟩ => ⟨x :: xs, H2, I2, .cons r1 r2, q2⟩
def tTup (t : TA) : TE := fun σ H Q => t σ H fun xs H1 => xs.length ≤ sizeLine ∧ ∀ p, H1 p = none → Q (.ref p) (upd H1 p (.tup xs))
def tLst (t : TA) : TE := fun σ H Q => t σ H fun xs H1 => xs.length ≤ sizeLine ∧ ∀ p, H1 p = none → Q (.ref p) (upd H1 p (.lst xs))
theorem pe_tup {x1} (h : PA X es t) : PE X (.Tuple es x1 pos) (tTup t) := by
  intro pins s σ H Q I hq
  refine wpAny_Tuple_spliced (thn (h pos pins s σ H _ I hq) fun us s1 ⟨xs, H1, I1, r, z, q⟩ => ⟨by rw [← r.length]; exact z, ?_⟩)
  have hf : H1 s1.heap.objs.size = none := I1.hok.fresh (Nat.le_refl _)
  refine ⟨.ref s1.heap.objs.size, upd H1 s1.heap.objs.size (.tup xs), I1.laid (t' := s1.toks) (fun b u e => Heap.get?_push_of_some _ e) (Nat.le_refl _) ?_, rfl, q _ hf⟩
  exact ⟨z, us, r, ⟨_, Heap.get?_push_size _ rfl, rfl, _, rfl⟩⟩
theorem pe_lst (h : PA X es t) : PE X (.List es pos) (tLst t) := by
  intro pins s σ H Q I hq
  refine wpAny_List_spliced (thn (h pos pins s σ H _ I hq) fun us s1 ⟨xs, H1, I1, r, z, q⟩ => ⟨by rw [← r.length]; exact z, ?_⟩)
  have hf : H1 s1.heap.objs.size = none := I1.hok.fresh (Nat.le_refl _)
  refine ⟨.ref s1.heap.objs.size, upd H1 s1.heap.objs.size (.lst xs), I1.laid (t' := s1.toks) (fun b u e => Heap.get?_push_of_some _ e) (Nat.le_refl _) ?_, rfl, q _ hf⟩
  exact ⟨z, us, 0, r, Heap.get?_push_size _ rfl⟩
end
abbrev Sp := List V → Hp → VK → XK → Prop
abbrev CXT := List Env → Hp → Shared → XK → Value → Shared → Prop
structure Env0 (P : Program) (w : World) (K : PySem.W.Frag) (mg : Str → Option Value) (base : Heap) (A : Around) (outer : List Env) (s : Shared) (H : Hp) : Prop where
  frames : A.frames = some outer
  mod : Mod K mg base
  bs : ∀ b o, base.get? b = some o → s.heap.get? b = some o ∧ H b = none
  bsz : base.objs.size ≤ s.heap.objs.size
  funs : s.heap.FunFrames base outer
  frf : ∀ b ∈ frs outer, H b = none
  hok : HOk P w H s.heap
  bare : AllBare s.gens
def CE (outer : List Env) (P : Program) (w : World) (H : Hp) (s : Shared) (Q : VK) (u : Value) (s' : Shared) : Prop :=
  ∃ v H', s'.os = s.os ∧ AllBare s'.gens ∧ Un (frs outer) [] H H' s.heap s'.heap ∧ HOk P w H' s'.heap ∧ RelV v u ∧ Q v H'
def CR (CX : CXT) (outer : List Env) (P : Program) (w : World) (H : Hp) (s : Shared) (Q : VK) (E : XK) (r : Result) (s' : Shared) : Prop :=
  match r with
  | .ok (.ret u) => CE outer P w H s Q u s'
  | .ok _ => False
  | .error e => CX outer H s E e s'
structure FnOk (P : Program) (w : World) (K : PySem.W.Frag) (mg : Str → Option Value) (base : Heap) (CX : CXT) (k : Nat) (f : Addr) (fd : FuncData) (ps : List Str) (sp : Sp) : Prop where
  len : ∀ vs H Q E, sp vs H Q E → vs.length = ps.length
  run : ∀ (A : Around) (outer : List Env) (s : Shared) (H : Hp) (args : Args) (us : List Value) (vs : List V) (Q : VK) (E : XK), Room k A → Env0 P w K mg base A outer s H → BindsTo s fd args (ps.zip us) → Vals vs us → sp vs H Q E →
    codeAny (model P w) A (.call (.ref f) args) (CR CX outer P w H s Q E) s
theorem FnOk.mono {P : Program} {w : World} {K : PySem.W.Frag} {mg : Str → Option Value} {base : Heap} {CX : CXT} {j k : Nat} {f : Addr} {fd : FuncData} {ps : List Str} {sp : Sp} (F : FnOk P w K mg base CX j f fd ps sp) (h : j ≤ k) :
    FnOk P w K mg base CX k f fd ps sp := ⟨F.len, fun A outer s H args us vs Q E hr => F.run A outer s H args us vs Q E (hr.mono h)⟩
theorem FnOk.imp {P : Program} {w : World} {K : PySem.W.Frag} {mg : Str → Option Value} {base : Heap} {CX : CXT} {k : Nat} {f : Addr} {fd : FuncData} {ps : List Str} {sp sp' : Sp} (F : FnOk P w K mg base CX k f fd ps sp)
    (h : ∀ vs H Q E, sp' vs H Q E → sp vs H Q E) : FnOk P w K mg base CX k f fd ps sp' :=
  ⟨fun vs H Q E q => F.len vs H Q E (h _ _ _ _ q), fun A outer s H args us vs Q E hr he hb hv hs => F.run A outer s H args us vs Q E hr he hb hv (h _ _ _ _ hs)⟩
theorem Env0.in1 {P : Program} {w : World} {K : PySem.W.Frag} {mg : Str → Option Value} {base : Heap} {A : Around} {outer : List Env} {s : Shared} {H : Hp} (e : Env0 P w K mg base A outer s H) :
    Env0 P w K mg base A.in1 outer s H := ⟨e.frames, e.mod, e.bs, e.bsz, e.funs, e.frf, e.hok, e.bare⟩
section
variable {X : Cx} {pins : List (Addr × Obj)} {σ : St} {H : Hp} {s s' : Shared}
theorem Inv.env0 (I : Inv X pins σ H s) : Env0 X.prog X.w X.K X.mg X.base X.A X.stack s H :=
  ⟨I.ok.frames, I.ok.mod, I.bs, Nat.le_trans I.ok.bsz I.sz, I.stack, I.stkFree, I.hok, I.bare⟩
theorem Inv.after {Q : VK} {u : Value} (I : Inv X pins σ H s) (h : CE X.stack X.prog X.w H s Q u s') : EP X pins σ Q u s' := by
  obtain ⟨v, H', os, bare, un, hok, r, q⟩ := h
  obtain ⟨hh, g, d, t, os'⟩ := s'
  obtain rfl : os' = s.os := os
  exact ⟨v, H', I.call (h' := hh) (g' := g) (d' := d) (t' := t) (ch := []) un hok bare (fun b z => absurd z (by simp)), r, q⟩
end
def tCall (sp : Sp) (dvs : List V) (E : XK) (t : TA) : TE := fun σ H Q => t σ H fun vs H1 => sp (vs ++ dvs) H1 Q E
def Binds (K : PySem.W.Frag) (fd : FuncData) (ps : List Str) (ds : List Value) : Prop :=
  ∀ (s : Shared) (us : List Value), K.In s.heap → (us ++ ds).length = ps.length → BindsTo s fd ⟨us, []⟩ (ps.zip (us ++ ds))
theorem Binds.all {K : PySem.W.Frag} {fd : FuncData} {ps : List Str} (h : ∀ us : List Value, us.length = ps.length → bindArgs fd ⟨us, []⟩ = pure (ps.zip us)) : Binds K fd ps [] := fun s us _ hl => by
  rw [List.append_nil] at hl ⊢
  exact .of_eq (h us hl)
def Passes (CX : CXT) (X : Cx) (E : XK) : Prop := ∀ (pins : List (Addr × Obj)) (σ : St) (H : Hp) (s : Shared) (e : Value) (s' : Shared), Inv X pins σ H s → CX X.stack H s E e s' → X.xe e s'
section
variable {X : Cx} {CX : CXT} {k : Nat} {f C : Addr} {fd : FuncData} {ps : List Str} {sp : Sp} {dvs : List V} {ds : List Value} {E : XK} {x m : Str} {p pos apos : Pos} {e o : Expr} {es : List Expr} {ta : TE} {t : TA}
theorem run_fn {pins : List (Addr × Obj)} {σ : St} {H : Hp} {s : Shared} {Q : VK} {us : List Value} {vs : List V} (F : FnOk X.prog X.w X.K X.mg X.base CX k f fd ps sp) (hr : Room k X.A) (hb : Binds X.K fd ps ds) (hd : Vals dvs ds) (hx : Passes CX X E)
    (I : Inv X pins σ H s) (r : Vals vs us) (h : sp (vs ++ dvs) H Q E) : wpAny (model X.prog X.w) X.A (call (.ref f) us) (EP X pins σ Q) X.xe s := by
  have r2 : Vals (vs ++ dvs) (us ++ ds) := r.append hd
  have hl : (us ++ ds).length = ps.length := by rw [← r2.length]; exact F.len _ _ _ _ h
  refine wpAny_call (codeAny_mono (F.run X.A X.stack s H ⟨us, []⟩ (us ++ ds) (vs ++ dvs) Q E hr I.env0 (hb s us I.kIn hl) r2 h) fun r s' hq => ?_)
  cases r with
  | error e => exact hx pins σ H s e s' I hq
  | ok fl =>
    cases fl with
    | ret u => exact I.after hq
    | next => exact False.elim hq
    | brk => exact False.elim hq
    | cont => exact False.elim hq
theorem pe_call (F : FnOk X.prog X.w X.K X.mg X.base CX k f fd ps sp) (hr : Room k X.A) (hg : Gl X x) (hm : X.mg x = some (.ref f)) (hk : PySem.W.keepIn X.K (.ref f) = true) (hb : Binds X.K fd ps ds) (hd : Vals dvs ds) (hx : Passes CX X E)
    (ha : PA X (e :: es) t) (hdb : (x == ("__debug__" : Str)) = false := by decide) (he : starEach (e :: es) X.env = (false, eval e X.env) :: starEach es X.env := by rfl) (hpl : (backTo pos (starEach es X.env)).any (·.1) = false := by rfl) :
    PE X (.Call (.Name x p) (e :: es) [] pos) (tCall sp dvs E t) := by
  intro pins s σ H Q I h
  refine wpAny_Call_Name_kw (ld_glob I hg hm ?_ hdb)
  refine PySem.W.callWith_K (h₀ := X.base) I.ok.mod.kin hk (thn (ha pos pins s σ H _ I h) fun us s1 ⟨vs, H1, I1, r, q⟩ => ⟨I1.kIn, ?_⟩) he hpl
  exact run_fn F hr hb hd hx I1 r q
end
section
variable {X : Cx} {CX : CXT} {k : Nat} {f C : Addr} {fd : FuncData} {ps ks : List Str} {sp : Sp} {E : XK} {x m : Str} {p pos apos kpos : Pos} {e o : Expr} {es : List Expr} {kws : List Keyword} {te ta : TE} {t tk : TA} {nm : Option Str}
variable {g : List Value → List Value → List Value} {gV : List V → List V → List V}
end
structure FnScope (N P : List Str) (sc : Scope) : Prop where
  kind : sc.kind = .function
  co : sc.isCoroutine = false
  gen : sc.isGenerator = false
  nd : N.Nodup
  pre : N.take P.length = P
  par : ∀ x ∈ P, sc.names.lookup x = some .local ∨ sc.names.lookup x = some .cell
  nofree : ∀ y ∈ sc.names, y.2 ≠ .free
theorem bindL_out {kindOf : Str → Option NameKind} {x : Str} : ∀ {binds : List (Str × Value)} {m : Str → Option Value}, (∀ v, (x, v) ∉ binds) → bindL kindOf binds m x = m x
  | [], _, _ => rfl
  | (n, v) :: r, m, h => by
    unfold bindL
    rw [bindL_out fun w hw => h w (List.mem_cons_of_mem _ hw)]
    split
    · have : x ≠ n := by rintro rfl; exact h v List.mem_cons_self
      simp [this]
    · rfl
theorem bindC_out {kindOf : Str → Option NameKind} {x : Str} : ∀ {binds : List (Str × Value)} {m : Str → Option Value}, (∀ v, (x, v) ∉ binds) → bindC kindOf binds m x = m x
  | [], _, _ => rfl
  | (n, v) :: r, m, h => by
    unfold bindC
    rw [bindC_out fun w hw => h w (List.mem_cons_of_mem _ hw)]
    split
    · rfl
    · have : x ≠ n := by rintro rfl; exact h v List.mem_cons_self
      simp [this]
theorem bindL_get {kindOf : Str → Option NameKind} {x : Str} {v : Value} : ∀ {P : List Str} {vs : List Value} {i : Nat} {m : Str → Option Value}, P.Nodup → P[i]? = some x → vs[i]? = some v → kindOf x = some .local →
    bindL kindOf (P.zip vs) m x = some v
  | [], _, _, _, _, h, _, _ => by simp at h
  | _ :: _, [], _, _, _, _, h, _ => by simp at h
  | p :: P, w :: vs, 0, m, nd, h1, h2, hk => by
    simp at h1 h2; subst h1; subst h2
    show bindL kindOf ((p, w) :: P.zip vs) m p = _
    unfold bindL
    rw [bindL_out fun v hv => (List.nodup_cons.mp nd).1 (List.of_mem_zip hv).1, if_pos hk]
    simp
  | p :: P, w :: vs, i + 1, m, nd, h1, h2, hk => by
    show bindL kindOf ((p, w) :: P.zip vs) m x = _
    unfold bindL
    exact bindL_get (i := i) (List.nodup_cons.mp nd).2 (by simpa using h1) (by simpa using h2) hk
theorem bindC_get {kindOf : Str → Option NameKind} {x : Str} {v : Value} : ∀ {P : List Str} {vs : List Value} {i : Nat} {m : Str → Option Value}, P.Nodup → P[i]? = some x → vs[i]? = some v → kindOf x ≠ some .local →
    bindC kindOf (P.zip vs) m x = some v
  | [], _, _, _, _, h, _, _ => by simp at h
  | _ :: _, [], _, _, _, _, h, _ => by simp at h
  | p :: P, w :: vs, 0, m, nd, h1, h2, hk => by
    simp at h1 h2; subst h1; subst h2
    show bindC kindOf ((p, w) :: P.zip vs) m p = _
    unfold bindC
    rw [bindC_out fun v hv => (List.nodup_cons.mp nd).1 (List.of_mem_zip hv).1, if_neg hk]
    simp
  | p :: P, w :: vs, i + 1, m, nd, h1, h2, hk => by
    show bindC kindOf ((p, w) :: P.zip vs) m x = _
    unfold bindC
    exact bindC_get (i := i) (List.nodup_cons.mp nd).2 (by simpa using h1) (by simpa using h2) hk
def start (N : List Str) (vs : List V) : St := vs.map some ++ List.replicate (N.length - vs.length) none
def cxOf (CX : CXT) (P : Program) (w : World) (K : PySem.W.Frag) (mg : Str → Option Value) (base : Heap) (N : List Str) (qual : Str) (scope : Scope) (f : Addr) (cd : Value) (A : Around) (outer : List Env) (s : Shared) (H : Hp) (E : XK) : Cx where
  prog := P
  w := w
  K := K
  mg := mg
  base := base
  A := A.deeper (envOfC qual scope s.heap.objs.size f cd)
  N := N
  s₀ := s
  H₀ := H
  env := envOfC qual scope s.heap.objs.size f cd
  outer := outer
  stack := envOfC qual scope s.heap.objs.size f cd :: outer
  ex := []
  calm := true
  fn := fun _ => true
  pn := []
  xe := fun e s' => wpAny (model P w) (A.deeper (envOfC qual scope s.heap.objs.size f cd)) (leaving (envOfC qual scope s.heap.objs.size f cd) e) (fun _ s'' => CX outer H s E e s'') (fun e' s'' => CX outer H s E e' s'') s'
theorem cell_has {sc : Scope} {n : Nat} {x : Str} (h : sc.names.lookup x = some .cell) : ∃ c, (cellsFrom n sc.names []).lookup x = some c := by
  have q := PySem.W.cellsFrom_some sc.names n [] (.inl h)
  exact Option.isSome_iff_exists.mp q
theorem inv_start {CX : CXT} {P : Program} {w : World} {K : PySem.W.Frag} {mg : Str → Option Value} {base : Heap} {N ps : List Str} {qual : Str} {scope : Scope} {f : Addr} {cd : Value} {A : Around} {outer : List Env} {s s1 : Shared} {H : Hp} {E : XK} {us : List Value} {vs : List V}
    (S : FnScope N ps scope) (hd : A.handled = none) (e0 : Env0 P w K mg base A outer s H) (hl : vs.length = ps.length) (r : Vals vs us)
    (x : InCallC s s.heap.objs.size (bindL (envOfC qual scope s.heap.objs.size f cd).kindOf (ps.zip us) fun _ => none) (cellsFrom (s.heap.objs.size + 1) scope.names []) (bindC (envOfC qual scope s.heap.objs.size f cd).kindOf (ps.zip us) fun _ => none) s1) :
    Inv (cxOf CX P w K mg base N qual scope f cd A outer s H E) [] (start N vs) H s1 := by
  have hpl : ps.length ≤ N.length := by have := congrArg List.length S.pre; rw [List.length_take] at this; omega
  obtain ⟨h1, tk, rfl, hk⟩ := x.done
  have noA : ∀ b : Addr, b ∉ (cxOf CX P w K mg base N qual scope f cd A outer s H E).ex := fun b z => absurd (show b ∈ ([] : List Addr) from z) (by simp)
  refine ⟨⟨e0.mod, S.kind, rfl, rfl, Nat.le_refl _, fun y z c h1 h2 => ?_, fun y hy => ?_, fun y c _ h => ?_, fun _ => hd, Around.frames_deeper e0.frames, .inr ⟨rfl, rfl⟩, fun b z => absurd z (noA b), e0.bs, e0.bsz, fun b _ _ => noA b, fun b z => absurd z (noA b), e0.funs, e0.frf⟩,
    rfl, e0.bare, Un.kept hk, ⟨_, x.toInCall.ns, fun i y v h1 h2 h3 => ?_⟩, fun y c h => ⟨_, x.cell y c h⟩, e0.hok.fresh (Nat.le_refl _), fun y c h => ?_, fun p hp => absurd (show p ∈ ([] : List (Addr × Obj)) from hp) (by simp), e0.hok.kept hk, ?_⟩
  · exact name_of_addr x.apart (PySem.mem_of_lookup h1) (PySem.mem_of_lookup h2)
  · have hy : scope.names.lookup y = some .cell ∨ scope.names.lookup y = some .free := hy
    rcases hy with hy | hy
    · exact cell_has hy
    · exact absurd rfl (S.nofree _ (PySem.mem_of_lookup hy))
  · exact Nat.le_of_lt (x.above y c (PySem.mem_of_lookup h))
  · have hi : i < vs.length := by
      unfold start at h2
      by_cases hi : i < vs.length
      · exact hi
      · rw [List.getElem?_append_right (by simpa using hi)] at h2
        rw [List.getElem?_replicate] at h2
        split at h2 <;> cases h2
    have ha : vs[i]? = some v := by
      unfold start at h2
      rw [List.getElem?_append_left (by simpa using hi), List.getElem?_map] at h2
      cases e : vs[i]? with
      | none => rw [e] at h2; cases h2
      | some a => rw [e] at h2; cases h2; rfl
    obtain ⟨u, hu, rv⟩ := r.get ha
    have hp : ps[i]? = some y := by
      rw [← S.pre, List.getElem?_take_of_lt (by omega)]; exact h1
    have ndP : ps.Nodup := by rw [← S.pre]; exact S.nd.sublist (List.take_sublist _ _)
    refine ⟨u, rv, ?_⟩
    rcases S.par y (List.mem_of_getElem? hp) with k | k
    · exact .inl ⟨k, bindL_get ndP hp hu k⟩
    · obtain ⟨c, e⟩ := cell_has (n := s.heap.objs.size + 1) k
      refine .inr ⟨.inl k, c, e, ?_⟩
      have q := x.cell y c e
      rw [bindC_get ndP hp hu (by show scope.names.lookup y ≠ _; rw [k]; decide)] at q
      exact q
  · exact e0.hok.fresh (Nat.le_of_lt (x.above y c (PySem.mem_of_lookup h)))
  · unfold start
    show _ = N.length
    rw [List.length_append, List.length_map, List.length_replicate]
    omega
theorem fn_of {CX : CXT} {P : Program} {w : World} {K : PySem.W.Frag} {mg : Str → Option Value} {base : Heap} {k : Nat} {f : Addr} {name qual : Str} {params : Arguments} {body : List Stmt} {scope : Scope} {dV kV doc pm cdv ct oc : Value} {an od : Option Addr}
    {osl : Array (Option Value)} {N ps : List Str} {sp : Sp} (lk : K.lookup f = some ⟨oc, od, .func (PySem.W.fnOf name qual params body scope dV kV doc pm an cdv ct), osl⟩) (hcd : PySem.W.codeIn K cdv qual = true) (S : FnScope N ps scope)
    (len : ∀ vs H Q E, sp vs H Q E → vs.length = ps.length)
    (hbody : ∀ (A : Around) (outer : List Env) (s : Shared) (H : Hp) (vs : List V) (Q : VK) (E : XK), Room k (A.deeper (envOfC qual scope s.heap.objs.size f cdv)) → sp vs H Q E →
      ∃ t, PSs (cxOf CX P w K mg base N qual scope f cdv A outer s H E) body t ∧ t { nx := fun _ H' => Q .non H', rt := Q } (start N vs) H) :
    FnOk P w K mg base CX (k + 1) f (PySem.W.fnOf name qual params body scope dV kV doc pm an cdv ct) ps sp := by
  refine ⟨len, fun A outer s H args us vs Q E hr e0 hb r hsp => ?_⟩
  have hl := len _ _ _ _ hsp
  have KX : K.In s.heap := e0.mod.kin.keeps fun b o e => (e0.bs b o e).1
  have lim : s.heap.NoLimit := e0.mod.nolimit.keeps fun b o e => (e0.bs b o e).1
  have hkind : ∀ y ∈ ps.zip us, scope.names.lookup y.1 = some .local ∨ (scope.names.lookup y.1 = some .cell ∧ ((cellsFrom (s.heap.objs.size + 1) scope.names []).lookup y.1).isSome = true) := fun ⟨n, v⟩ hy => by
    rcases S.par n (List.of_mem_zip hy).1 with q | q
    · exact .inl q
    · exact .inr ⟨q, PySem.W.cellsFrom_some _ _ _ (.inl q)⟩
  refine codeAny_call_function hr.depth (KX _ _ lk) rfl S.co S.gen rfl (PySem.W.codeRec_of KX hcd) (hb _ _ _ _ ?_)
  refine wpAny_newFunctionEnv_cells S.kind hkind fun env he s1 x => ?_
  subst he
  refine ⟨lim.keeps x.toInCall.keep, codeAny_func ?_⟩
  obtain ⟨t, ht, hq⟩ := hbody A outer s H vs Q E (hr.deeper _) hsp
  have I : Inv (cxOf CX P w K mg base N qual scope f cdv A outer s H E) [] (start N vs) H s1 := inv_start S hr.hd e0 hl r x
  refine wpAny_mono (ht [] s1 (start N vs) H _ I hq) (fun fl s' hs => ?_) fun e s' hs => hs
  have fin : ∀ {σ' : St} {H' : Hp} {v : V} {u : Value}, Inv (cxOf CX P w K mg base N qual scope f cdv A outer s H E) [] σ' H' s' → RelV v u → Q v H' → CE outer P w H s Q u s' :=
    fun {σ' H' v u} J rv q => ⟨v, H', J.os, J.bare, J.base, J.hok, rv, q⟩
  cases fl with
  | ret u =>
    obtain ⟨v, σ', H', J, rv, q⟩ := hs
    exact fin J rv q
  | next =>
    obtain ⟨σ', H', J, q⟩ := hs
    exact fin (v := V.non) (u := Value.none) J rfl q
  | brk =>
    obtain ⟨_, _, _, q⟩ := hs
    exact False.elim q
  | cont =>
    obtain ⟨_, _, _, q⟩ := hs
    exact False.elim q
end L2
namespace L2
open PySem PySem.Spec PyProof.Rows
section
variable {X : Cx} {x : Str} {p pos : Pos} {e : Expr} {es : List Expr} {t : TA} {id T : String} {r : List V → Hp → VK → Prop}
def tCB (r : List V → Hp → VK → Prop) (t : TA) : TE := fun σ H Q => t σ H fun vs H1 => r vs H1 Q
theorem pe_callB (hc : CallR X (.builtin id) r) (hg : Gl X x) (hm : X.mg x = none) (hv : bootBuiltins x = some (.builtin id)) (ha : PA X (e :: es) t) (hn : x ≠ "__name__" := by decide) (hdb : (x == ("__debug__" : Str)) = false := by decide)
    (he : starEach (e :: es) X.env = (false, eval e X.env) :: starEach es X.env := by rfl) (hpl : (backTo pos (starEach es X.env)).any (·.1) = false := by rfl) : PE X (.Call (.Name x p) (e :: es) [] pos) (tCB r t) := by
  intro pins s σ H Q I h
  refine wpAny_Call_Name_kw (ld_blt I hg hm hv ?_ hn hdb)
  exact PyProof.Rows.callWith_builtin1 (thn (ha pos pins s σ H _ I h) fun us s1 ⟨vs, H1, I1, r1, q1⟩ => hc pins s1 σ H1 vs us Q I1 r1 q1) he hpl
theorem pe_callTy (hc : CallR X (.type T) r) (hg : Gl X x) (hm : X.mg x = none) (hv : bootBuiltins x = some (.type T)) (ha : PA X (e :: es) t) (hn : x ≠ "__name__" := by decide) (hdb : (x == ("__debug__" : Str)) = false := by decide)
    (he : starEach (e :: es) X.env = (false, eval e X.env) :: starEach es X.env := by rfl) (hpl : (backTo pos (starEach es X.env)).any (·.1) = false := by rfl) : PE X (.Call (.Name x p) (e :: es) [] pos) (tCB r t) := by
  intro pins s σ H Q I h
  refine wpAny_Call_Name_kw (ld_blt I hg hm hv ?_ hn hdb)
  exact PyProof.Rows.callWith_type1 (thn (ha pos pins s σ H _ I h) fun us s1 ⟨vs, H1, I1, r1, q1⟩ => hc pins s1 σ H1 vs us Q I1 r1 q1) he hpl
end
end L2
namespace HT
open PySem PyProof.Rows
section
open PySem.SeqAt
open PySem.AutoSeq1 (wpAny_loadPart')
open PySem.MeetsSeq PySem.MeetsSeq2 PySem.MeetsSeq3
end
section
variable {prog : Program} {w : World} {A : Around} {E : Value → Shared → Prop} {s : Shared}
theorem cat_tup {t b : Addr} {vs ws : List Value} {Q : Value → Shared → Prop} (ht : IsTup s.heap t vs.toArray) (hb : IsTup s.heap b ws.toArray) (hv : vs ≠ [])
    (h1 : ws = [] → Q (.ref t) s) (h2 : ws ≠ [] → Q (.ref s.heap.objs.size) { s with heap := s.heap.push { cls := .type "tuple", data := .seq (vs ++ ws).toArray } })
    (hsz : vs.length + ws.length ≤ sizeLine) : wpAny (model prog w) A (binaryOp .Add (.ref t) (.ref b)) Q E s := by
  obtain ⟨⟨cls, dd, data, sl⟩, ho, hc, n, hd⟩ := id ht
  obtain ⟨⟨cls2, dd2, data2, sl2⟩, ho2, hc2, n2, hd2⟩ := id hb
  simp only at hc hd hc2 hd2
  subst hc hd hc2 hd2
  have e : vs.toArray ++ ws.toArray = (vs ++ ws).toArray := by simp
  by_cases hw : ws = []
  · exact concat_meets ⟨_, ho, rfl⟩ ⟨_, ho2, rfl⟩ noFill_tuple_add seq_tuple_add PySem.F.slot_tuple_add PySem.F.entry_tuple_add (PySem.F.args_tuple_add_2 _ _)
      (tuple_addW1 t b vs.toArray ws.toArray n n2 dd dd2 sl sl2 (by simpa using hv) (by simp [hw])) ⟨ho, ho2, h1 hw⟩
  · refine concat_meets ⟨_, ho, rfl⟩ ⟨_, ho2, rfl⟩ noFill_tuple_add seq_tuple_add PySem.F.slot_tuple_add PySem.F.entry_tuple_add (PySem.F.args_tuple_add_2 _ _)
      (tuple_addW2 t b vs.toArray ws.toArray n n2 dd dd2 sl sl2 (by simpa using hv) (by simpa using hw) (by rw [List.size_toArray, List.size_toArray]; exact hsz)) ⟨ho, ho2, ?_⟩
    rw [e]
    exact h2 hw
def sIx (n d : Nat) : Option Int → Nat
  | none => d
  | some v => if v < 0 then (v + (n : Int)).toNat else min v.toNat n
theorem sIx_le (n d : Nat) (hd : d ≤ n) (o : Option Int) : sIx n d o ≤ n := by
  cases o with
  | none => exact hd
  | some v =>
    show (if v < 0 then (v + (n : Int)).toNat else min v.toNat n) ≤ n
    by_cases hv : v < 0
    · rw [if_pos hv]; omega
    · rw [if_neg hv]; exact Nat.min_le_right _ _
theorem clip_eq (v : Int) (n d : Nat) : (if v < 0 then max (v + (n : Int)) 0 else min v (n : Int)) = ((sIx n d (some v) : Nat) : Int) := by
  show (if v < 0 then max (v + (n : Int)) 0 else min v (n : Int)) = (((if v < 0 then (v + (n : Int)).toNat else min v.toNat n) : Nat) : Int)
  by_cases hv : v < 0
  · simp only [if_pos hv]; omega
  · simp only [if_neg hv]; omega
theorem adjust_gen (lo hi : Option Int) (n : Nat) : Builtin.Slice.sliceAdjust lo hi 1 (n : Int) = (((sIx n 0 lo : Nat) : Int), ((sIx n n hi : Nat) : Int)) := by
  have h1 : ¬ ((1 : Int) < 0) := by omega
  unfold Builtin.Slice.sliceAdjust
  simp only [h1, if_false]
  refine Prod.ext ?_ ?_
  · cases lo with
    | none => rfl
    | some v => exact clip_eq v n 0
  · cases hi with
    | none => rfl
    | some v => exact clip_eq v n n
theorem places_gen (i j : Nat) : Builtin.Slice.slicePlaces (i : Int) (j : Int) 1 = j - i := by
  unfold Builtin.Slice.slicePlaces
  have h1 : (1 : Int) > 0 := by omega
  simp only [h1, if_true, Int.ediv_one]
  split <;> omega
theorem slicePart_ {v : Value} {o : Option Int} {Q : Option Int → Shared → Prop} (p : IsPart v o) (h : Q o s) : wpAny (model prog w) A (Builtin.Slice.slicePartIndex v) Q E s := by
  cases p with
  | none => exact slicePart_none h
  | int i t => exact slicePart_int h
theorem sliceApplied_gen {sl : Addr} {vl vu : Value} {lo hi : Option Int} {n : Nat} {Q : Int × Int × Nat → Shared → Prop} (hs : s.heap.IsSliceOf sl vl vu .none) (pl : IsPart vl lo) (pu : IsPart vu hi)
    (h : Q (((sIx n 0 lo : Nat) : Int), 1, sIx n n hi - sIx n 0 lo) s) : wpAny (model prog w) A (Builtin.Slice.sliceApplied (.ref sl) (pure (n : Int))) Q E s := by
  obtain ⟨os, hos, hcs, hds⟩ := id hs
  unfold Builtin.Slice.sliceApplied Builtin.Slice.sliceFields
  refine wpAny_bind (wpAny_bind (wpAny_field hos hds (x := vl) rfl (wpAny_bind (wpAny_field hos hds (x := vu) rfl (wpAny_bind (wpAny_field hos hds (x := .none) rfl (wpAny_pure ?_)))))))
  refine wpAny_bind (slicePart_none ?_)
  show wpAny _ _ (if ((1 : Int) == 0) = true then _ else _) _ _ s
  rw [if_neg (by decide)]
  refine wpAny_bind (slicePart_ pl (wpAny_bind (slicePart_ pu (wpAny_bind (wpAny_pure ?_)))))
  show wpAny _ _ (match Builtin.Slice.sliceAdjust lo hi 1 (n : Int) with | (lo, hi) => pure (lo, (1 : Int), Builtin.Slice.slicePlaces lo hi 1)) _ _ s
  rw [adjust_gen lo hi n]
  show wpAny _ _ (pure (((sIx n 0 lo : Nat) : Int), (1 : Int), Builtin.Slice.slicePlaces ((sIx n 0 lo : Nat) : Int) ((sIx n n hi : Nat) : Int) 1)) _ _ s
  rw [places_gen]
  exact wpAny_pure h
theorem pick_gen (xs : Array Value) (i k : Nat) : ((List.range k).filterMap fun (m : Nat) => xs[((i : Int) + (m : Int) * 1).toNat]?).toArray = ((xs.toList.drop i).take k).toArray := by
  have e : (fun (m : Nat) => xs[((i : Int) + (m : Int) * 1).toNat]?) = fun m => xs[i + m]? := by
    funext m
    have : ((i : Int) + (m : Int) * 1).toNat = i + m := by omega
    rw [this]
  rw [e]
  have := pick_run xs i k
  rw [List.filterMap_map] at this
  have e2 : ((fun x => xs[x]?) ∘ fun x => i + x) = fun m => xs[i + m]? := rfl
  rw [e2] at this
  rw [this]
theorem getItem_tuple_cut {t sl : Addr} {items : Array Value} {vl vu : Value} {lo hi : Option Int} {Q : Value → Shared → Prop} (ht : IsTup s.heap t items) (hs : s.heap.IsSliceOf sl vl vu .none) (pl : IsPart vl lo) (pu : IsPart vu hi)
    (hw : ¬ (sIx items.size 0 lo = 0 ∧ sIx items.size items.size hi = items.size))
    (h : Q (.ref s.heap.objs.size) { s with heap := s.heap.push { cls := .type "tuple", data := .seq ((items.toList.drop (sIx items.size 0 lo)).take (sIx items.size items.size hi - sIx items.size 0 lo)).toArray } })
    (hsz : items.size ≤ sizeLine) : wpAny (model prog w) A (getItem (.ref t) (.ref sl)) Q E s := by
  have htake : sizeOk (.seq ((items.toList.drop (sIx items.size 0 lo)).take (sIx items.size items.size hi - sIx items.size 0 lo)).toArray) := by
    show ((items.toList.drop (sIx items.size 0 lo)).take (sIx items.size items.size hi - sIx items.size 0 lo)).toArray.size ≤ sizeLine
    rw [List.size_toArray, List.length_take, List.length_drop, Array.length_toList]
    omega
  have hj : sIx items.size items.size hi ≤ items.size := sIx_le _ _ (Nat.le_refl _) hi
  obtain ⟨os, hos, hcs, hds⟩ := id hs
  have hTs : s.TypeIs (.ref sl) "slice" := ⟨os, hos, hcs⟩
  unfold getItem
  try with_reducible refine wpAny_holding ?_
  first | refine wpAny_bind (wpAny_pure ?_) | skip
  refine wpAny_bind (wpAny_sequenceKey ht.typeIs (by decide) ?_)
  refine wpAny_bind (wpAny_callSpecial?_slot (name := Str.ofString "__getitem__") ht.typeIs PyProof.Rows.slot_tuple_getitem
    (wpAny_call_entry PyProof.Rows.slot_tuple_getitem ht.typeIs entry_tuple_getitem ?_ (args_tuple_getitem _ _)))
  show wpAny _ _ (Builtin.Tuple.tupleItemsOf (.ref t) >>= _) _ _ s
  refine wpAny_bind (tupleItemsOf_ ht ?_)
  refine wpAny_bind (wpAny_typeOf hTs ?_)
  rw [if_pos (by decide)]
  refine wpAny_bind (sliceApplied_gen hs pl pu ?_)
  have hno : ¬ ((((sIx items.size 0 lo : Nat) : Int) == 0 && (1 : Int) == 1 && (sIx items.size items.size hi - sIx items.size 0 lo) == items.size) = true) := by
    intro q
    rw [Bool.and_eq_true, Bool.and_eq_true] at q
    have q1 : ((sIx items.size 0 lo : Nat) : Int) = 0 := eq_of_beq q.1.1
    have q2 : sIx items.size items.size hi - sIx items.size 0 lo = items.size := eq_of_beq q.2
    exact hw ⟨by omega, by omega⟩
  show wpAny _ _ (if (((sIx items.size 0 lo : Nat) : Int) == 0 && (1 : Int) == 1 && (sIx items.size items.size hi - sIx items.size 0 lo) == items.size) = true then _ else _) _ _ s
  rw [if_neg hno, pick_gen]
  first
    | exact wpAny_bind (m := Builtin.Tuple.tupleExact _) (wpAny_newObj_type (wpAny_pure ⟨_, rfl, wpAny_pure h⟩) htake)
    | exact wpAny_bind (m := Builtin.Tuple.tupleExact _) (wpAny_newObj_type (wpAny_bind (wpAny_pure (wpAny_pure ⟨_, rfl, wpAny_pure h⟩))) htake)
    | exact wpAny_bind (wpAny_bind (m := Builtin.Tuple.tupleExact _) (wpAny_newObj_type (wpAny_pure (wpAny_pure ⟨_, rfl, wpAny_pure h⟩)) htake))
    | exact wpAny_bind (wpAny_bind (m := Builtin.Tuple.tupleExact _) (wpAny_newObj_type (wpAny_pure ⟨_, rfl, wpAny_pure h⟩) htake))
end
end HT
namespace L2
open PySem PySem.Spec PyProof.Rows
abbrev TO := St → Hp → (Option Int → Hp → Prop) → Prop
def PO (X : Cx) (e : Option Expr) (t : TO) : Prop :=
  ∀ (pins : List (Addr × Obj)) (s : Shared) (σ : St) (H : Hp) (Q : Option Int → Hp → Prop), Inv X pins σ H s → t σ H Q →
    wpAny (model X.prog X.w) X.A (evalPart e X.env) (fun u s' => ∃ o H', Inv X pins σ H' s' ∧ IsPart u o ∧ Q o H') X.xe s
def tNoPart : TO := fun _ H Q => Q none H
def tPart (t : TE) : TO := fun σ H Q => t σ H fun x H1 => ∃ i, x = .int i ∧ Q (some i) H1
section
variable {X : Cx} {e : Expr} {te : TE} {lo hi : Option Expr} {tl th : TO} {pos p2 : Pos}
theorem po_none : PO X none tNoPart := by
  intro pins s σ H Q I h
  rw [evalPart_none]
  exact wpAny_pure ⟨none, H, I, .none, h⟩
theorem po_some (h : PE X e te) : PO X (some e) (tPart te) := by
  intro pins s σ H Q I hw
  rw [evalPart_some]
  refine thn (h pins s σ H _ I hw) fun u s1 ⟨x, H1, I1, r1, q1⟩ => ?_
  obtain ⟨i, rfl, q⟩ := q1
  obtain ⟨t, rfl⟩ := r1
  exact ⟨some i, H1, I1, .int i t, q⟩
def SlR (X : Cx) (r : V → Option Int → Option Int → Hp → VK → Prop) : Prop :=
  ∀ (pins : List (Addr × Obj)) (s : Shared) (σ : St) (H : Hp) (x : V) (v vl vu : Value) (lo hi : Option Int) (sl : Addr) (Q : VK), Inv X pins σ H s → RelV x v → s.heap.IsSliceOf sl vl vu .none → IsPart vl lo → IsPart vu hi → r x lo hi H Q →
    ∃ T id, typeLookup (.type T) "__getitem__" = pure (some (.builtin id)) ∧ s.TypeIs v T ∧ wpAny (model X.prog X.w) X.A (getItem v (.ref sl)) (EP X pins σ Q) X.xe s
theorem SlR.or {r r' : V → Option Int → Option Int → Hp → VK → Prop} (h : SlR X r) (h' : SlR X r') : SlR X (fun x lo hi H Q => r x lo hi H Q ∨ r' x lo hi H Q) := by
  intro pins s σ H x v vl vu lo hi sl Q I rx hs pl pu q
  rcases q with q | q
  · exact h pins s σ H x v vl vu lo hi sl Q I rx hs pl pu q
  · exact h' pins s σ H x v vl vu lo hi sl Q I rx hs pl pu q
def tSl (r : V → Option Int → Option Int → Hp → VK → Prop) (te : TE) (tl th : TO) : TE := fun σ H Q => te σ H fun x H1 => tl σ H1 fun l H2 => th σ H2 fun u H3 => r x l u H3 Q
theorem pe_slice {r : V → Option Int → Option Int → Hp → VK → Prop} (hr : SlR X r) (he : PE X e te) (hl : PO X lo tl) (hu : PO X hi th) : PE X (.Subscript e (.Slice lo hi none p2) pos) (tSl r te tl th) := by
  intro pins s σ H Q I h
  refine Subscript_ (thn (he pins s σ H _ I h) fun v s1 ⟨x, H1, I1, r1, q1⟩ => ?_)
  refine wpAny_Slice (thn (hl pins s1 σ H1 _ I1 q1) fun vl s2 ⟨l, H2, I2, pl, q2⟩ => thn (hu pins s2 σ H2 _ I2 q2) fun vu s3 ⟨u, H3, I3, pu, q3⟩ => ?_)
  rw [evalPart_none]
  refine wpAny_pure ?_
  have I4 : Inv X pins σ H3 { s3 with heap := s3.heap.push { cls := .type "slice", data := .fields #[vl, vu, .none] } } := I3.kept (t' := s3.toks) fun b ob q => Heap.get?_push_of_some _ q
  obtain ⟨T, id, hT, ht, hg⟩ := hr pins { s3 with heap := s3.heap.push { cls := .type "slice", data := .fields #[vl, vu, .none] } } σ H3 x v vl vu l u s3.heap.objs.size Q I4 r1 (Heap.IsSliceOf.new ..) pl pu q3
  show wpAny (model X.prog X.w) X.A (subscriptTail e (.Slice lo hi none p2) v (.ref s3.heap.objs.size)) (EP X pins σ Q) X.xe { s3 with heap := s3.heap.push { cls := .type "slice", data := .fields #[vl, vu, .none] } }
  exact tail_any (ops := [.ref s3.heap.objs.size, v]) ht hT hg (by with_unfolding_all rfl)
def cutV (xs : List V) (lo hi : Option Int) : List V := (xs.drop (HT.sIx xs.length 0 lo)).take (HT.sIx xs.length xs.length hi - HT.sIx xs.length 0 lo)
theorem cutV_length (xs : List V) (lo hi : Option Int) : (cutV xs lo hi).length ≤ xs.length := by
  unfold cutV
  rw [List.length_take, List.length_drop]
  omega
def rSlT (K : PySem.W.Frag) : V → Option Int → Option Int → Hp → VK → Prop := fun x lo hi H Q => ∃ a xs, x = .ref a ∧ SqT K H a xs ∧
  ¬ (HT.sIx xs.length 0 lo = 0 ∧ HT.sIx xs.length xs.length hi = xs.length) ∧ ∀ p, H p = none → Q (.ref p) (upd H p (.tup (cutV xs lo hi)))
theorem sl_tup : SlR X (rSlT X.K) := by
  intro pins s σ H x v vl vu lo hi sl Q I rx hs pl pu h
  obtain ⟨a, xs, rfl, hx, hw, q⟩ := h
  cases rx
  obtain ⟨its, r, ht, hz⟩ := I.tuple hx
  have hlen : its.toArray.size = xs.length := by rw [List.size_toArray]; exact r.length.symm
  refine ⟨"tuple", _, PyProof.Rows.slot_tuple_getitem.lookup, ht.typeIs, ?_⟩
  refine HT.getItem_tuple_cut ht hs pl pu (by rw [hlen]; exact hw) ?_ (by rw [hlen]; exact hz)
  rw [hlen]
  refine ⟨.ref s.heap.objs.size, _, I.laid (t' := s.toks) (o := .tup (cutV xs lo hi)) (fun b ob q => Heap.get?_push_of_some _ q) (Nat.le_refl _) ?_, rfl, q _ (I.hok.fresh (Nat.le_refl _))⟩
  exact ⟨Nat.le_trans (cutV_length xs lo hi) hz, _, (r.drop (HT.sIx xs.length 0 lo)).take (HT.sIx xs.length xs.length hi - HT.sIx xs.length 0 lo), IsTup.new _ _⟩
def rCatT (K : PySem.W.Frag) : R2 := fun x y H Q => ∃ a b xs ys, x = .ref a ∧ y = .ref b ∧ SqT K H a xs ∧ SqT K H b ys ∧ xs ≠ [] ∧ xs.length + ys.length ≤ sizeLine ∧
  (ys = [] → Q (.ref a) H) ∧ (ys ≠ [] → ∀ p, H p = none → Q (.ref p) (upd H p (.tup (xs ++ ys))))
theorem Vals.nil_iff {xs : List V} {us : List Value} (r : Vals xs us) : us = [] ↔ xs = [] := by
  cases r with
  | nil => simp
  | cons _ _ => simp
theorem op_catT : OpR X (binaryOp .Add) (rCatT X.K) := by
  intro pins s σ H x y v u Q I rx ry h
  obtain ⟨a, b, xs, ys, rfl, rfl, ha, hb, hx, hz, q1, q2⟩ := h
  cases rx
  cases ry
  obtain ⟨its, r1, p1, _⟩ := I.tuple ha
  obtain ⟨its2, r2, p2, _⟩ := I.tuple hb
  refine HT.cat_tup p1 p2 (fun z => hx (r1.nil_iff.mp z)) (fun z => ⟨.ref a, H, I, rfl, q1 (r2.nil_iff.mp z)⟩) (fun z => ?_) (by rw [← r1.length, ← r2.length]; exact hz)
  refine ⟨.ref s.heap.objs.size, _, I.laid (t' := s.toks) (o := .tup (xs ++ ys)) (fun b ob q => Heap.get?_push_of_some _ q) (Nat.le_refl _) ?_, rfl, q2 (fun w => z (r2.nil_iff.mpr w)) _ (I.hok.fresh (Nat.le_refl _))⟩
  exact ⟨by rw [List.length_append]; exact hz, _, r1.append r2, IsTup.new _ _⟩
end
end L2
namespace L2
open PySem PySem.Spec PyProof.Rows
def ixN (n : Nat) (i : Int) : Option Nat := if 0 ≤ i then (if i < n then some i.toNat else none) else if -(n : Int) ≤ i then some (i + n).toNat else none
def atI {α : Type} (xs : List α) (i : Int) : Option α := (ixN xs.length i).bind fun j => xs[j]?
theorem ixN_seq {n : Nat} {i : Int} {j : Nat} (h : ixN n i = some j) : seqIndex? i n = some j ∧ j < n ∧ -(n : Int) ≤ i ∧ i < n := by
  unfold ixN at h
  by_cases h0 : 0 ≤ i
  · rw [if_pos h0] at h
    by_cases h1 : i < n
    · rw [if_pos h1] at h
      have e : i.toNat = j := Option.some.inj h
      exact ⟨by rw [seqIndex_of h0 h1, e], by omega, by omega, h1⟩
    · rw [if_neg h1] at h; cases h
  · rw [if_neg h0] at h
    by_cases h1 : -(n : Int) ≤ i
    · rw [if_pos h1] at h
      have e : (i + n).toNat = j := Option.some.inj h
      exact ⟨by rw [seqIndex_neg (by omega) h1, e], by omega, h1, by omega⟩
    · rw [if_neg h1] at h; cases h
theorem atI_get {α : Type} {xs : List α} {i : Int} {v : α} (h : atI xs i = some v) : ∃ j, seqIndex? i xs.length = some j ∧ xs[j]? = some v ∧ j < xs.length ∧ -(xs.length : Int) ≤ i ∧ i < xs.length := by
  unfold atI at h
  cases e : ixN xs.length i with
  | none => rw [e] at h; cases h
  | some j =>
    rw [e] at h
    obtain ⟨h1, h2, h3, h4⟩ := ixN_seq e
    exact ⟨j, h1, h, h2, h3, h4⟩
def PlainIx (b : Expr) : Prop := ∀ o i, subscripted b false o i = operate [o, i] (getItem o i)
def IxR (X : Cx) (r : R2) : Prop :=
  ∀ (value slice : Expr) (pins : List (Addr × Obj)) (s : Shared) (σ : St) (H : Hp) (x y : V) (v u : Value) (Q : VK), Inv X pins σ H s → RelV x v → RelV y u → r x y H Q →
    subscripted slice false v u = operate [v, u] (getItem v u) → wpAny (model X.prog X.w) X.A (subscriptTail value slice v u) (EP X pins σ Q) X.xe s
def MtR (X : Cx) (id : String) (r : V → List V → Hp → VK → Prop) : Prop :=
  ∀ (pins : List (Addr × Obj)) (s : Shared) (σ : St) (H : Hp) (x : V) (xs : List V) (v : Value) (us : List Value) (Q : VK), Inv X pins σ H s → RelV x v → Vals xs us → r x xs H Q →
    wpAny (model X.prog X.w) X.A (call (.builtin id) (v :: us)) (EP X pins σ Q) X.xe s
section
variable {X : Cx} {a b : Expr} {ta tb : TE} {pos : Pos}
theorem IxR.or {r r' : R2} (h : IxR X r) (h' : IxR X r') : IxR X (fun x y H Q => r x y H Q ∨ r' x y H Q) := by
  intro value slice pins s σ H x y v u Q I rx ry q hs
  rcases q with q | q
  · exact h value slice pins s σ H x y v u Q I rx ry q hs
  · exact h' value slice pins s σ H x y v u Q I rx ry q hs
theorem MtR.or {id : String} {r r' : V → List V → Hp → VK → Prop} (h : MtR X id r) (h' : MtR X id r') : MtR X id (fun x xs H Q => r x xs H Q ∨ r' x xs H Q) := by
  intro pins s σ H x xs v us Q I rx rs q
  rcases q with q | q
  · exact h pins s σ H x xs v us Q I rx rs q
  · exact h' pins s σ H x xs v us Q I rx rs q
theorem pe_ix {r : R2} (hr : IxR X r) (ha : PE X a ta) (hb : PE X b tb) (hs : PlainIx b) : PE X (.Subscript a b pos) (tOp r ta tb) := by
  intro pins s σ H Q I h
  exact Subscript_ (binT ha hb I h fun v u s2 x y H2 I2 rx ry q => hr a b pins s2 σ H2 x y v u Q I2 rx ry q (hs _ _))
def rIxL (K : PySem.W.Frag) : R2 := fun x y H Q => ∃ p xs i v, x = .ref p ∧ y = .int i ∧ SqL K H p xs ∧ atI xs i = some v ∧ Q v H
def rIxT (K : PySem.W.Frag) : R2 := fun x y H Q => ∃ p xs i v, x = .ref p ∧ y = .int i ∧ SqT K H p xs ∧ atI xs i = some v ∧ Q v H
def rIxS : R2 := fun x y H Q => ∃ z i c, x = .str z ∧ y = .int i ∧ z.length ≤ sizeLine ∧ atI z.cps.toList i = some c ∧ Q (.str ⟨#[c]⟩) H
theorem ix_list : IxR X (rIxL X.K) := by
  intro value slice pins s σ H x y v u Q I rx ry h hs
  obtain ⟨p, xs, i, z, rfl, rfl, hq, he, q⟩ := h
  cases rx
  obtain ⟨t, rfl⟩ := ry
  obtain ⟨its, r, pl, hz⟩ := I.list hq
  obtain ⟨j, h1, h2, h3, h4, h5⟩ := atI_get he
  obtain ⟨w, ew, rw'⟩ := r.get h2
  have hl := r.length
  have hn := line63
  have fin : EP X pins σ Q w s := ⟨z, H, I, rw', q⟩
  by_cases h0 : 0 ≤ i
  · have hj : i.toNat = j := by
      rw [seqIndex_of h0 h5] at h1
      exact Option.some.inj h1
    exact item_listR pl.isList h0 (by omega) (by rw [hj]; simpa using ew) fin hs
  · have hj : (i + (its.toArray.size : Int)).toNat = j := by
      rw [seqIndex_neg (by omega) h4] at h1
      rw [List.size_toArray, ← hl]
      exact Option.some.inj h1
    exact subscriptTail_builtinR (x := w) pl.isList.typeIs slot_list_getitem.lookup
      (wpAny_getItem_list_neg (Q := fun r s' => r = w ∧ EP X pins σ Q r s') pl.isList (by omega) (by rw [List.size_toArray] <;> omega) (by omega) (by rw [hj]; simpa using ew) ⟨rfl, fin⟩) hs
theorem ix_tup : IxR X (rIxT X.K) := by
  intro value slice pins s σ H x y v u Q I rx ry h hs
  obtain ⟨p, xs, i, z, rfl, rfl, hq, he, q⟩ := h
  cases rx
  obtain ⟨t, rfl⟩ := ry
  obtain ⟨its, r, pl, hz⟩ := I.tuple hq
  obtain ⟨j, h1, h2, h3, h4, h5⟩ := atI_get he
  obtain ⟨w, ew, rw'⟩ := r.get h2
  have hl := r.length
  have hn := line63
  have fin : EP X pins σ Q w s := ⟨z, H, I, rw', q⟩
  exact subscriptTail_builtinR (x := w) pl.typeIs slot_tuple_getitem.lookup
    (getItem_tuple (j := j) (Q := fun r s' => r = w ∧ EP X pins σ Q r s') pl (by omega) (by omega) (by rw [List.size_toArray, ← hl]; exact h1) (by simpa using ew) ⟨rfl, fin⟩) hs
theorem ix_str : IxR X rIxS := by
  intro value slice pins s σ H x y v u Q I rx ry h hs
  obtain ⟨z, i, c, rfl, rfl, hz, he, q⟩ := h
  obtain ⟨t, rfl⟩ := rx
  obtain ⟨t', rfl⟩ := ry
  obtain ⟨j, h1, h2, h3, h4, h5⟩ := atI_get he
  have hl : z.cps.toList.length = z.length := by simp [Str.length]
  rw [hl] at h1 h4 h5
  have hn := line63
  exact tail_any (typeIs_str s z t) slot_str_getitem.lookup (getItem_str (c := c) (by
    have e1 : decide (i < -(2 ^ 63 : Int)) = false := decide_eq_false (by omega)
    have e2 : decide (i ≥ 2 ^ 63) = false := decide_eq_false (by omega)
    rw [e1, e2, Bool.or_false]) (by rw [h1]; simpa using h2) ⟨.str ⟨#[c]⟩, H, I.tok _, ⟨_, rfl⟩, q⟩) hs
def rIx (K : PySem.W.Frag) : R2 := fun x y H Q => rIxL K x y H Q ∨ rIxT K x y H Q ∨ rIxS x y H Q
theorem ix_seq : IxR X (rIx X.K) := ix_list.or (ix_tup.or ix_str)
theorem mapSeq_set (its : List Value) (n j : Nat) (u : Value) : Obj.mapSeq (·.setIfInBounds j u) { cls := .type "list", data := .seq its.toArray n } = { cls := .type "list", data := .seq (its.set j u).toArray n } := by
  simp [Obj.mapSeq]
theorem Inv.lst {pins : List (Addr × Obj)} {σ : St} {H : Hp} {s : Shared} {p : Addr} {xs : List V} (I : Inv X pins σ H s) (h : H p = some (.lst xs)) :
    ∃ (its : List Value) (n : Nat), Vals xs its ∧ s.heap.get? p = some { cls := .type "list", data := .seq its.toArray n } ∧ xs.length ≤ sizeLine := by
  obtain ⟨z, its, n, r, e⟩ := I.hok p _ h
  exact ⟨its, n, r, e, z⟩
theorem Inv.lstUpd {pins : List (Addr × Obj)} {σ : St} {H : Hp} {s : Shared} {p : Addr} {xs ys : List V} {its its' : List Value} {n n' : Nat} {f : Obj → Obj} (I : Inv X pins σ H s) (h : H p = some (.lst xs))
    (ho : s.heap.get? p = some { cls := .type "list", data := .seq its.toArray n }) (hf : f { cls := .type "list", data := .seq its.toArray n } = { cls := .type "list", data := .seq its'.toArray n' }) (r : Vals ys its') (hz : ys.length ≤ sizeLine) (t : Nat) :
    Inv X pins σ (upd H p (.lst ys)) { s with heap := s.heap.update p f, toks := t } := by
  have e : (s.heap.update p f).get? p = some { cls := .type "list", data := .seq its'.toArray n' } := by
    rw [Heap.get?_update_self f ho (by rw [hf] <;> rfl), hf]
  refine I.write (x := p) (e := p) (by rw [h]; trivial) (.inl rfl) (fun b u hb q => (Heap.get?_update_other _ _ (Ne.symm hb)).trans q) ⟨_, e⟩ ?_
  exact ⟨hz, its', n', r, e⟩
def rSetL : V → V → V → Hp → (Hp → Prop) → Prop := fun o i v H Q => ∃ p xs k j, o = .ref p ∧ i = .int k ∧ H p = some (.lst xs) ∧ ixN xs.length k = some j ∧ Q (upd H p (.lst (xs.set j v)))
theorem set_list : PSet X rSetL := by
  intro pins s σ H o i v ov iv u Q I ro ri rv h
  obtain ⟨p, xs, k, j, rfl, rfl, hp, hj, q⟩ := h
  cases ro
  obtain ⟨t, rfl⟩ := ri
  obtain ⟨its, n, r, ho, hz⟩ := I.lst hp
  obtain ⟨h1, h2, h3, h4⟩ := ixN_seq hj
  have hl := r.length
  have hn := line63
  have I' : Inv X pins σ (upd H p (.lst (xs.set j v))) { s with heap := s.heap.update p (Obj.mapSeq (·.setIfInBounds j u)) } :=
    I.lstUpd hp ho (mapSeq_set its n j u) (r.set rv j) (by rw [List.length_set]; exact hz) s.toks
  by_cases h0 : 0 ≤ k
  · have hk : k.toNat = j := by
      rw [seqIndex_of h0 h4] at h1
      exact Option.some.inj h1
    exact PySem.W.ki_setAt ho h0 (by omega) (by rw [List.size_toArray, ← hl]; exact h4) (by rw [hk]; exact ⟨_, I', q⟩)
  · have hk : (k + (its.toArray.size : Int)).toNat = j := by
      rw [seqIndex_neg (by omega) h3] at h1
      rw [List.size_toArray, ← hl]
      exact Option.some.inj h1
    exact PySem.W.ki_setBack ho (by omega) (by rw [List.size_toArray, ← hl]; exact h3) (by omega) (by rw [hk]; exact ⟨_, I', q⟩)
theorem call_len_seq : CallR X (.builtin "len") (fun xs H Q => ∃ p ys, xs = [.ref p] ∧ (SqL X.K H p ys ∨ SqT X.K H p ys) ∧ Q (.int ys.length) H) := by
  intro pins s σ H xs us Q I r h
  obtain ⟨p, ys, rfl, hq, q⟩ := h
  obtain ⟨u, rfl, rx⟩ := vals1 r
  cases rx
  have hn := line63
  rcases hq with hq | hq
  · obtain ⟨its, r', pl, hz⟩ := I.list hq
    have hlen := r'.length
    exact Calls.call_len_list pl.isList (by simp only [List.size_toArray] <;> omega) ⟨.int ys.length, H, I.tok _, ⟨s.toks + 1, by rw [List.size_toArray, hlen]⟩, q⟩
  · obtain ⟨its, r', pl, hz⟩ := I.tuple hq
    have hlen := r'.length
    exact len_tuple pl (by simp only [List.size_toArray] <;> omega) ⟨.int ys.length, H, I.tok _, ⟨s.toks + 1, by rw [List.size_toArray, hlen]⟩, q⟩
theorem CallR.or {f : Value} {r r' : List V → Hp → VK → Prop} (h : CallR X f r) (h' : CallR X f r') : CallR X f (fun xs H Q => r xs H Q ∨ r' xs H Q) := by
  intro pins s σ H xs us Q I rs q
  rcases q with q | q
  · exact h pins s σ H xs us Q I rs q
  · exact h' pins s σ H xs us Q I rs q
theorem call_list_of : CallR X (.type "list") (fun xs H Q => ∃ p ys, xs = [.ref p] ∧ (SqL X.K H p ys ∨ SqT X.K H p ys) ∧ ∀ l, H l = none → Q (.ref l) (upd H l (.lst ys))) := by
  intro pins s σ H xs us Q I r h
  obtain ⟨p, ys, rfl, hq, q⟩ := h
  obtain ⟨u, rfl, rx⟩ := vals1 r
  cases rx
  have fin : ∀ (its : List Value), Vals ys its → ys.length ≤ sizeLine → ∀ (h' : Heap) (c' : Nat), (∀ b o', s.heap.get? b = some o' → h'.get? b = some o') →
      h'.get? s.heap.objs.size = some { cls := .type "list", dict := none, data := .seq its.toArray c', slots := #[] } → EP X pins σ Q (.ref s.heap.objs.size) { s with heap := h' } := fun its r' hz h' c' kp e =>
    ⟨.ref s.heap.objs.size, _, I.laid (t' := s.toks) kp (Nat.le_refl _) (show ObjOk X.prog X.w _ h' _ (.lst ys) from ⟨hz, its, c', r', e⟩), rfl, q _ (I.hok.fresh (Nat.le_refl _))⟩
  rcases hq with hq | hq
  · obtain ⟨its, r', pl, hz⟩ := I.list hq
    have hlen := r'.length
    obtain ⟨o, ho, hc, n, hd⟩ := pl.isList
    exact call_list_seq p (.inl rfl) ho hc hd (fun h' c' kp e => fin its r' hz h' c' kp e) (by simp only [List.size_toArray] <;> omega)
  · obtain ⟨its, r', pl, hz⟩ := I.tuple hq
    have hlen := r'.length
    obtain ⟨o, ho, hc, n, hd⟩ := pl
    exact call_list_seq p (.inr rfl) ho hc hd (fun h' c' kp e => fin its r' hz h' c' kp e) (by simp only [List.size_toArray] <;> omega)
theorem call_tuple_of : CallR X (.type "tuple") (fun xs H Q => ∃ p ys, xs = [.ref p] ∧ ((SqL X.K H p ys ∧ ∀ l, H l = none → Q (.ref l) (upd H l (.tup ys))) ∨ (SqT X.K H p ys ∧ Q (.ref p) H))) := by
  intro pins s σ H xs us Q I r h
  obtain ⟨p, ys, rfl, h⟩ := h
  obtain ⟨u, rfl, rx⟩ := vals1 r
  cases rx
  rcases h with ⟨hq, q⟩ | ⟨hq, q⟩
  · obtain ⟨its, r', pl, hz⟩ := I.list hq
    have hlen := r'.length
    refine call_tuple_list pl.isList (fun h' kp => ?_) (by simp only [List.size_toArray] <;> omega)
    have I1 : Inv X pins σ H { s with heap := h' } := I.kept (t' := s.toks) kp
    have I2 : Inv X pins σ (upd H h'.objs.size (.tup ys)) { s with heap := h'.push { cls := .type "tuple", data := .seq its.toArray } } :=
      I1.laid (t' := s.toks) (fun b o e => Heap.get?_push_of_some _ e) (Nat.le_refl _) (show ObjOk X.prog X.w _ _ _ (.tup ys) from ⟨hz, its, r', IsTup.new _ _⟩)
    exact ⟨.ref h'.objs.size, _, I2, rfl, q _ (I1.hok.fresh (Nat.le_refl _))⟩
  · obtain ⟨its, r', pl, hz⟩ := I.tuple hq
    exact call_tuple_same pl ⟨.ref p, H, I, rfl, q⟩
def tyV (K : PySem.W.Frag) (T : String) (x : V) (H : Hp) : Prop := match x with
  | .str _ => T = "str"
  | .int _ => T = "int"
  | .ref p => (T = "list" ∧ ∃ xs, SqL K H p xs) ∨ (T = "tuple" ∧ ∃ o, K.lookup p = some o ∧ o.cls = .type "tuple" ∧ o.dict = none) ∨
      (T = "dict" ∧ ((∃ kvs, H p = some (.dK kvs)) ∨ ∃ kvs, H p = some (.dT kvs))) ∨ (T = "set" ∧ ∃ S n, H p = some (.set S n))
  | _ => False
theorem tyV_is {pins : List (Addr × Obj)} {σ : St} {H : Hp} {s : Shared} {T : String} {x : V} {v : Value} (I : Inv X pins σ H s) (r : RelV x v) (ty : tyV X.K T x H) :
    s.TypeIs v T ∧ ∀ a, v = .ref a → ∃ ob, s.heap.get? a = some ob ∧ ob.dict = none := by
  cases x with
  | str z =>
    obtain ⟨t, rfl⟩ := r
    cases (show T = "str" from ty)
    exact ⟨typeIs_str s z t, fun _ e => nomatch e⟩
  | int i =>
    obtain ⟨t, rfl⟩ := r
    cases (show T = "int" from ty)
    exact ⟨typeIs_int s i t, fun _ e => nomatch e⟩
  | ref p =>
    cases r
    rcases ty with ⟨rfl, xs, hq⟩ | ⟨rfl, o, hk, hc, hd⟩ | ⟨rfl, hk⟩ | ⟨rfl, S, n, hk⟩
    · obtain ⟨its, _, pl, _⟩ := I.list hq
      refine ⟨pl.isList.typeIs, fun a e => ?_⟩
      cases e
      obtain ⟨o, n, e, c, hd, _⟩ := pl
      exact ⟨o, e, hd⟩
    · refine ⟨⟨o, I.kIn p o hk, hc⟩, fun a e => ?_⟩
      cases e
      exact ⟨o, I.kIn _ o hk, hd⟩
    · have z : ∃ o, s.heap.get? p = some o ∧ o.ExactDict := by
        rcases hk with ⟨kvs, hk⟩ | ⟨kvs, hk⟩
        · obtain ⟨_, _, _, _, o, _, _, e, ex, _⟩ := I.hok p _ hk
          exact ⟨o, e, ex⟩
        · obtain ⟨_, _, _, _, o, _, _, e, ex, _⟩ := I.hok p _ hk
          exact ⟨o, e, ex⟩
      obtain ⟨o, e, ex⟩ := z
      refine ⟨⟨o, e, ex.1⟩, fun a e2 => ?_⟩
      cases e2
      exact ⟨o, e, ex.2.1⟩
    · obtain ⟨o, _, _, _, e, ex, _⟩ := I.hok p _ hk
      refine ⟨⟨o, e, ex.1⟩, fun a e2 => ?_⟩
      cases e2
      exact ⟨o, e, ex.2.1⟩
  | _ => exact False.elim ty
def tBM (K : PySem.W.Frag) (T : String) (r : V → List V → Hp → VK → Prop) (to : TE) (t : TA) : TE := fun σ H Q => to σ H fun x H1 => tyV K T x H1 ∧ t σ H1 fun xs H2 => r x xs H2 Q
variable {o e : Expr} {es : List Expr} {to : TE} {t : TA} {name : Str} {apos cpos : Pos} {T id : String} {r : V → List V → Hp → VK → Prop}
theorem pe_bm (pa : PlainAttrs T) (slot : Slot T name id) (hty : typeOf (.builtin id) = pure (.type "method_descriptor")) (hm : MtR X id r) (ho : PE X o to) (ha : PA X (e :: es) t)
    (hbase : attributeBase o name X.env (eval o X.env) = eval o X.env := by rfl)
    (hfew : ((backTo cpos (starEach (e :: es) X.env)).all (fun x => !x.1) && (backToKw cpos (keywordEach [] X.env)).all (fun x => x.1.isSome)
      && decide ((e :: es).length + ([] : List Keyword).length + (if ([] : List Keyword).isEmpty then 0 else 1) < 30)) = true := by rfl)
    (hline : (apos.endLine == cpos.line) = true := by rfl) (hs : starEach (e :: es) X.env = (false, eval e X.env) :: starEach es X.env := by rfl) (hplain : (backTo cpos (starEach es X.env)).any (·.1) = false := by rfl) :
    PE X (.Call (.Attribute o name apos) (e :: es) [] cpos) (tBM X.K T r to t) := by
  intro pins s σ H Q I h
  refine wpAny_Call_method_late hbase hfew hline rfl (thn (ho pins s σ H _ I h) fun v s1 ⟨x, H1, I1, r1, ty, q1⟩ => ?_)
  obtain ⟨h1, h2⟩ := tyV_is I1 r1 ty
  refine ⟨T, id, pa, slot, hty, h1, h2, ?_⟩
  have hA := ha cpos pins s1 σ H1 _ I1 q1
  rw [hs] at hA ⊢
  refine Calls.callWith_builtin (by show (false || (backTo cpos (starEach es X.env)).any (·.1)) = false; rw [hplain] <;> rfl) (Calls.evalArgs_plain ?_)
  exact thn hA fun us s2 ⟨vs, H2, I2, r2, q2⟩ => hm pins s2 σ H2 x vs v us Q I2 r1 r2 q2
end
end L2
namespace L2
open PySem PySem.Spec PyProof.Rows
def MtM (X : Cx) (id : String) (r : V → List V → Hp → VK → Prop) : Prop :=
  ∀ (pins : List (Addr × Obj)) (s : Shared) (σ : St) (H : Hp) (x : V) (xs : List V) (v : Value) (us : List Value) (Q : VK), Inv X pins σ H s → RelV x v → Vals xs us → r x xs H Q →
    wpAny (model X.prog X.w) X.A (call (.builtin id) (v :: us)) (EP X pins σ Q) X.xe s
theorem Vals.one : ∀ {x : V} {us : List Value}, Vals [x] us → ∃ u, us = [u] ∧ RelV x u
  | _, _, .cons r .nil => ⟨_, rfl, r⟩
theorem Vals.two : ∀ {x y : V} {us : List Value}, Vals [x, y] us → ∃ u v, us = [u, v] ∧ RelV x u ∧ RelV y v
  | _, _, _, .cons r (.cons q .nil) => ⟨_, _, rfl, r, q⟩
theorem Vals.zero : ∀ {us : List Value}, Vals [] us → us = []
  | _, .nil => rfl
theorem Vals.rep {xs : List V} {us : List Value} (h : Vals xs us) : ∀ k : Nat, Vals (List.replicate k xs).flatten (List.replicate k us).flatten
  | 0 => .nil
  | k + 1 => by
    rw [List.replicate_succ, List.replicate_succ, List.flatten_cons, List.flatten_cons]
    exact Vals.append h (Vals.rep h k)
theorem foldl_rep (its : List Value) : ∀ (k : Nat) (acc : List Value),
    List.foldl (fun x1 x2 => x1 ++ x2) acc.toArray (List.replicate k its.toArray) = (acc ++ (List.replicate k its).flatten).toArray
  | 0, acc => by simp
  | k + 1, acc => by
    have e : acc.toArray ++ its.toArray = (acc ++ its).toArray := by simp
    have e2 : (acc ++ its) ++ (List.replicate k its).flatten = acc ++ (List.replicate (k + 1) its).flatten := by
      rw [List.replicate_succ, List.flatten_cons, List.append_assoc]
    rw [← e2, ← foldl_rep its k (acc ++ its), ← e, List.replicate_succ, List.foldl_cons]
section
variable {X : Cx} {pins : List (Addr × Obj)} {σ : St} {H : Hp} {s : Shared} {l b : Addr} {xs ys zs : List V}
theorem Inv.lset {its its' : List Value} {n : Nat} {f : Array Value → Array Value} {t' : Nat} (I : Inv X pins σ H s) (hH : H l = some (.lst xs))
    (e : s.heap.get? l = some { cls := .type "list", data := .seq its.toArray n }) (hf : f its.toArray = its'.toArray) (hv : Vals ys its') (hz : ys.length ≤ sizeLine) :
    Inv X pins σ (upd H l (.lst ys)) { s with heap := s.heap.update l (Obj.mapSeq f), toks := t' } := by
  have q := PySem.IsL.update e f
  rw [hf] at q
  refine I.write (x := l) (e := l) (by rw [hH]; exact trivial) (.inl rfl) (fun b' u hb hu => (Heap.get?_update_other s.heap (Obj.mapSeq f) (Ne.symm hb)).trans hu) ⟨_, q⟩ ?_
  exact ⟨hz, its', _, hv, q⟩
theorem Inv.lnew {its : List Value} {t' : Nat} (I : Inv X pins σ H s) (hv : Vals ys its) (hz : ys.length ≤ sizeLine) :
    Inv X pins σ (upd H s.heap.objs.size (.lst ys)) { s with heap := s.heap.push { cls := .type "list", data := .seq its.toArray }, toks := t' } :=
  I.laid (fun _ _ q => Heap.get?_push_of_some _ q) (Nat.le_refl _) ⟨hz, its, 0, hv, Heap.get?_push_size _ rfl⟩
theorem Inv.fresh (I : Inv X pins σ H s) : H s.heap.objs.size = none := I.hok.fresh (Nat.le_refl _)
theorem Inv.lstM (I : Inv X pins σ H s) (hH : H l = some (.lst xs)) : xs.length ≤ sizeLine ∧ ∃ (its : List Value) (n : Nat), Vals xs its ∧ xs.length = its.length ∧ s.heap.get? l = some { cls := .type "list", data := .seq its.toArray n } := by
  obtain ⟨z, its, n, r, e⟩ := I.hok l _ hH
  exact ⟨z, its, n, r, r.length, e⟩
end
section
variable {X : Cx}
def rAppend : V → List V → Hp → VK → Prop := fun x vs H Q => ∃ l xs y, x = .ref l ∧ vs = [y] ∧ H l = some (.lst xs) ∧ xs.length < sizeLine ∧ Q .non (upd H l (.lst (xs ++ [y])))
theorem mt_append : MtM X "list.append" rAppend := by
  intro pins s σ H x vs v us Q I rx rv h
  obtain ⟨l, xs, y, rfl, rfl, hH, hz, q⟩ := h
  cases rx
  obtain ⟨u, rfl, ru⟩ := rv.one
  obtain ⟨z, its, n, r, hl, e⟩ := I.lstM hH
  refine call_meets F.slot_list_append ⟨_, e, rfl⟩ F.entry_list_append (F.args_list_append_2 _ _) (PySem.list_append l its.toArray n u (by rw [List.size_toArray]; omega)) ⟨e, ?_⟩
  refine ⟨.non, _, I.lset (its' := its ++ [u]) hH e (by simp) (r.append (.cons ru .nil)) ?_, rfl, q⟩
  rw [List.length_append, List.length_singleton]
  omega
def rCat : R2 := fun x y H Q => ∃ l b xs zs, x = .ref l ∧ y = .ref b ∧ H l = some (.lst xs) ∧ H b = some (.lst zs) ∧ xs.length + zs.length ≤ sizeLine ∧ ∀ p, H p = none → Q (.ref p) (upd H p (.lst (xs ++ zs)))
theorem op_cat : OpR X (binaryOp .Add) rCat := by
  intro pins s σ H x y v u Q I rx ry h
  obtain ⟨l, b, xs, zs, rfl, rfl, hH, hB, hz, q⟩ := h
  cases rx
  cases ry
  obtain ⟨z, its, n, r, hl, e⟩ := I.lstM hH
  obtain ⟨z2, its2, n2, r2, hl2, e2⟩ := I.lstM hB
  refine PySem.P.add_list e e2 ?_ (by rw [List.size_toArray, List.size_toArray]; omega)
  have ea : its.toArray ++ its2.toArray = (its ++ its2).toArray := by simp
  rw [ea]
  exact ⟨.ref _, _, I.lnew (t' := s.toks) (r.append r2) (by rw [List.length_append]; omega), rfl, q _ I.fresh⟩
theorem len_rep {α : Type} (xs : List α) (k : Nat) : (List.replicate k xs).flatten.length = k * xs.length := by
  induction k with
  | zero => simp
  | succ k ih => rw [List.replicate_succ, List.flatten_cons, List.length_append, ih, Nat.succ_mul, Nat.add_comm]
end
section
variable {prog : Program} {w : World} {A : Around} {E : Value → Shared → Prop} {s : Shared}
end
section
variable {X : Cx}
end
end L2
namespace Att
open PySem PySem.W PySem.Calls PyProof.Rows
theorem ints_of_wellAll {P : Params} {h : Heap} : ∀ (ns : List Int) (vs : List Value), WellAll P h vs (ns.map WData.int) → IntsAre vs ns := by
  intro ns
  induction ns with
  | nil =>
    intro vs w
    rw [List.map_nil] at w
    cases w
    exact .nil
  | cons n ns ih =>
    intro vs w
    rw [List.map_cons] at w
    cases w with
    | cons a b =>
      cases a
      exact .cons _ _ (ih _ b)
theorem script_of {l : OpenLaw} {n : Nat} (hn : l.most = some n) {P : Params} {h : Heap} {args : List WData} {vals : List Value}
    (hpre : l.row.toRowW.claim.pre args = true) (hwl : WellAll P h vals args) :
    ∃ a vs ns, vals = [Value.ref a] ∧ args = [WData.list (ns.map WData.int)] ∧ h.get? a = some { cls := .type "list", data := .seq vs.toArray } ∧ IntsAre vs ns ∧ ns.length ≤ n := by
  have hsh : WShape.hasAll [] args [.list .int] = true := (pre_splitW hpre).1
  have hc : l.pre.holds [] { args := args } = true := (pre_splitW hpre).2
  obtain ⟨d, r, rfl, h1, h2⟩ := hasAllW_cons hsh
  obtain rfl := hasAllW_nil h2
  obtain ⟨xs, rfl, h3⟩ := hasW_list h1
  obtain ⟨ns, rfl⟩ := items_int h3
  have hlen : ns.length ≤ n := by
    unfold OpenLaw.pre at hc
    have h4 : (WTm.not (.lt (.lit (.int (n : Int))) (.len (.arg 0)))).holds [] { args := [.list (ns.map .int)] } = true := by
      have h4 := (holds_andW hc).1
      rw [hn] at h4
      exact h4
    have h5 := condW_of h4 (w_not (w_lt w_lit (w_len_list (w_arg rfl))))
    rw [List.length_map] at h5
    refine Nat.le_of_not_lt fun q => ?_
    have q' : (n : Int) < ((ns.length : Nat) : Int) := by omega
    first
      | (rw [decide_eq_true q'] at h5; exact absurd h5 (by decide))
      | (simp at h5; omega)
  cases hwl with
  | cons w1 w2 =>
    cases w2
    cases w1 with
    | list ho hall => exact ⟨_, _, ns, rfl, rfl, ho, ints_of_wellAll ns _ hall, hlen⟩
theorem post_true (l : OpenLaw) (args : List WData) : l.row.toRowW.claim.post args (.bool true) args = true :=
  postW_of (r := l.row.toRowW) (X := (true == true))
    (show WShape.has [] (.bool true) .bool = true by first | rfl | decide | simp [WShape.has, WShape.arms, WShape.armsAll])
    (show (WTm.eq .res (.lit (.bool true))).value [] { args := args, res := some (.bool true), after := args } = some (.bool (true == true)) from w_eq_bool (w_res rfl) w_lit) rfl
theorem attach_call {l : OpenLaw} {n : Nat} {q : Program} {loose : List Str} {XP : (Str → Option Value) → Heap → Prop} {YP : World → Heap → Prop} {d : DefRec}
    (hn : l.most = some n) (hdf : d.params.defaults = [])
    (call : ∀ (w : World) (s₀ s₁ : Shared) (mg mb : Str → Option Value) (fa : Addr) (o : Obj) (pm cd doc : Value) (a : Addr) (vs : List Value) (ns : List Int),
      Ground q loose [] XP w s₀ mg mb s₁.heap → YP w s₁.heap →
      s₁.heap.get? fa = some o → o.data = .func (docDef d.name d.params d.body d.scope pm cd doc) → s₁.heap.CodeRec cd d.name → mg d.name = some (.ref fa) →
      s₁.heap.get? a = some { cls := .type "list", data := .seq vs.toArray } → IntsAre vs ns → ns.length ≤ n → s₁.gens = #[] →
      codeAny (model l.prog w) callerA (.call (.ref fa) ⟨[.ref a], []⟩) (fun r s' => r = .ok (.ret (.bool true)) ∧ OldK s₁.heap s'.heap ∧ s'.os = s₁.os ∧ AllBare s'.gens) s₁) :
    WalkO q loose XP YP l.row.toRowW d [] (fun f vs => PySem.call f vs) := by
  intro w s₀ s₁ mg mb G Y fa o pm cd doc dV kV ho hd hcd hD hmg hg args vals as hpre hlay hrd hwl hlo
  obtain rfl : dV = .none := Dflts.none hD hdf
  obtain rfl : kV = .none := Dflts.noKw hD
  obtain ⟨a, vs, ns, rfl, rfl, hobj, hints, hlen⟩ := script_of hn hpre hwl
  refine enter_call (codeAny_mono (call w s₀ s₁ mg mb fa o pm cd doc a vs ns G Y ho (fd_plain hd) hcd hmg hobj hints hlen hg) fun r s' hq => ?_)
  obtain ⟨rfl, h2, h3, h4⟩ := hq
  exact ⟨.inl ⟨.bool true, .bool true, [], rfl, fun _ => rfl, .bool true, post_true l _, fun _ => ⟨List.Pairwise.nil, fun _ hm => (nomatch hm)⟩⟩, h2, h3, h4⟩
section
variable {prog : Program} {w : World} {A : Around} {E : Value → Shared → Prop} {s : Shared} {K : Frag}
end
end Att
namespace L2
open PySem PySem.Spec PyProof.Rows
theorem vals_ints : ∀ {vs : List Value} {ns : List Int}, IntsAre vs ns → Vals (ns.map V.int) vs
  | _, _, .nil => .nil
  | _, _, .cons n t h => .cons ⟨t, rfl⟩ (vals_ints h)
def Only (H : Hp) : Prop := ∀ b, H b = none ∨ ∃ o xs, H b = some (.frz o (.lst xs))
theorem law_call {P : Program} {w : World} {K : PySem.W.Frag} {mg mb : Str → Option Value} {CX : CXT} {k : Nat} {fa a : Addr} {fd : FuncData} {x : Str} {sp : Sp} {s₁ : Shared} {vs : List Value} {ns : List Int}
    (KX : K.In s₁.heap) (hns : s₁.heap.Ns mainGlobals mg) (hb : s₁.heap.Ns builtinsNs mb) (hbb : ∀ x : Str, x ≠ "__name__" → mb x = bootBuiltins x) (hlim : s₁.heap.NoLimit) (hg : s₁.gens = #[])
    (ha : s₁.heap.get? a = some { cls := .type "list", data := .seq vs.toArray }) (hi : IntsAre vs ns) (hl : ns.length ≤ sizeLine) (hr : Room k callerA)
    (F : ∀ base : Heap, K.In base → base.Ns mainGlobals mg → FnOk P w K mg base CX k fa fd [x] sp) (hbind : ∀ (s : Shared) (u : Value), BindsTo s fd ⟨[u], []⟩ [(x, u)])
    (hsp : ∀ H : Hp, Only H → SqL K H a (ns.map V.int) → sp [.ref a] H (fun v _ => v = .bl true) fun _ _ _ => False)
    (hCX : ∀ H e s', CX [] H s₁ (fun _ _ _ => False) e s' → False) :
    codeAny (model P w) callerA (.call (.ref fa) ⟨[.ref a], []⟩) (fun r s' => r = .ok (.ret (.bool true)) ∧ OldK s₁.heap s'.heap ∧ s'.os = s₁.os ∧ AllBare s'.gens) s₁ := by
  have rv := vals_ints hi
  have lenV := hi.length
  have core : ∀ H : Hp, Only H → SqL K H a (ns.map V.int) → HOk P w H s₁.heap → (∀ b, H b ≠ none → b = a) → (H a ≠ none → K.lookup a = none) →
      codeAny (model P w) callerA (.call (.ref fa) ⟨[.ref a], []⟩) (fun r s' => r = .ok (.ret (.bool true)) ∧ OldK s₁.heap s'.heap ∧ s'.os = s₁.os ∧ AllBare s'.gens) s₁ := by
    intro H hO hS hok hA hK
    have base_of : ∀ {b : Addr} {o : Obj}, s₁.heap.get? b = some o → H b = none → (hidT s₁.heap H).get? b = some o := fun e n => hidT_get e n
    have noA : ∀ {b : Addr} {o : Obj} {es : Array DictEntry} {ep : Nat}, s₁.heap.get? b = some o → o.data = .dict es ep → H b = none := fun {b o es ep} e d => by
      cases q : H b with
      | none => rfl
      | some u =>
        have e' : b = a := hA b (by rw [q]; simp)
        subst e'
        rw [ha] at e; cases e
        have d' : Data.seq vs.toArray _ = Data.dict es ep := d
        cases d'
    have nsK : ∀ {b : Addr} {m : Str → Option Value}, s₁.heap.Ns b m → (hidT s₁.heap H).Ns b m := fun {b m} ⟨o, es, ep, e, d, r⟩ => ⟨o, es, ep, base_of e (noA e d), d, r⟩
    have hKb : K.In (hidT s₁.heap H) := fun b o e => base_of (KX b o e) (by
      cases q : H b with
      | none => rfl
      | some u =>
        have e' : b = a := hA b (by rw [q]; simp)
        subst e'
        rw [hK (by rw [q]; simp)] at e; cases e)
    have hM : Mod K mg (hidT s₁.heap H) := ⟨hKb, nsK hns, ⟨mb, nsK hb, hbb⟩, let ⟨mc, h1, h2⟩ := hlim; ⟨mc, nsK h1, h2⟩⟩
    have e0 : Env0 P w K mg (hidT s₁.heap H) callerA [] s₁ H := ⟨rfl, hM, fun b o e => of_hidT e, Nat.le_of_eq (hidT_size _ _), trivial, fun b hb => absurd (show b ∈ ([] : List Addr) from hb) (by simp), hok, .of_eq hg⟩
    refine codeAny_mono ((F _ hKb (nsK hns)).run callerA [] s₁ H ⟨[.ref a], []⟩ [.ref a] [.ref a] _ _ hr e0 (hbind s₁ (.ref a)) (.cons rfl .nil) (hsp H hO hS)) fun r s' h => ?_
    cases r with
    | error e => exact (hCX H e s' h).elim
    | ok fl =>
      cases fl with
      | next => exact False.elim h
      | brk => exact False.elim h
      | cont => exact False.elim h
      | ret u =>
        obtain ⟨v, H', os, bare, un, hok', r', q⟩ := h
        have q' : v = .bl true := q
        subst q'
        obtain rfl : u = Value.bool true := r'
        refine ⟨rfl, OldK.of_keep fun b o e => ?_, os, bare⟩
        cases q : H b with
        | none => exact un.keep b o e q (by intro z; exact absurd (show b ∈ ([] : List Addr) from z) (by simp)) (by simp)
        | some u =>
          rcases hO b with z | ⟨ob, xs, z⟩
          · rw [q] at z; cases z
          · have z2 := un.frzs b ob _ z
            obtain ⟨e1, _⟩ := hok b _ z
            obtain ⟨e2, _⟩ := hok' b _ z2
            rw [e] at e1; cases e1
            exact e2
  cases hk : K.lookup a with
  | some o =>
    have e := KX a o hk
    rw [ha] at e
    cases e
    refine core (fun _ => none) (fun _ => .inl rfl) (.inr ⟨_, vs.toArray, _, hk, rfl, rfl, rfl, by rw [List.size_toArray, lenV]; exact hl, by simpa using rv⟩) (fun b u z => by have z' : (none : Option HO) = some u := z; cases z') (fun b z => absurd rfl z) fun z => absurd rfl z
  | none =>
    refine core (fun b => if b = a then some (.frz { cls := .type "list", data := .seq vs.toArray } (.lst (ns.map V.int))) else none) (fun b => ?_) (.inl (.inr ⟨{ cls := .type "list", data := .seq vs.toArray }, if_pos rfl⟩)) (fun b u z => ?_) (fun b z => ?_) fun _ => hk
    · by_cases hb : b = a
      · exact .inr ⟨_, _, if_pos hb⟩
      · exact .inl (if_neg hb)
    · by_cases hb : b = a
      · have z' := (if_pos hb).symm.trans z
        cases z'
        subst hb
        exact ⟨ha, by rw [List.length_map]; exact hl, vs, _, rv, ha⟩
      · have z' := (if_neg hb).symm.trans z
        cases z'
    · by_cases hb : b = a
      · exact hb
      · exact absurd (if_neg hb) z
end L2
namespace L2
open PySem PySem.Spec PyProof.Rows
theorem walk_of {l : PySem.W.OpenLaw} {n k : Nat} {q : Program} {loose : List Str} {XP : (Str → Option Value) → Heap → Prop} {YP : World → Heap → Prop} {d : DefRec} {K : Params → PySem.W.Frag} {CX : World → CXT} {sp : World → Sp} {x : Str}
    (hn : l.most = some n) (hn2 : n ≤ sizeLine) (hdf : d.params.defaults = []) (hr : Room k callerA)
    (hY : ∀ (w : World) (h : Heap), YP w h → (K w.params).In h)
    (F : ∀ (w : World) (mg : Str → Option Value) (fa : Addr) (h : Heap), (K w.params).In h → h.Ns mainGlobals mg → mg d.name = some (.ref fa) →
      ∃ fd : FuncData, (∀ (s : Shared) (u : Value), BindsTo s fd ⟨[u], []⟩ [(x, u)]) ∧
        ∀ base : Heap, (K w.params).In base → base.Ns mainGlobals mg → FnOk l.prog w (K w.params) mg base (CX w) k fa fd [x] (sp w))
    (hsp : ∀ (w : World) (H : Hp) (a : Addr) (ns : List Int), ns.length ≤ n → Only H → SqL (K w.params) H a (ns.map V.int) → sp w [.ref a] H (fun v _ => v = .bl true) fun _ _ _ => False)
    (hCX : ∀ (w : World) (H : Hp) (s : Shared) (e : Value) (s' : Shared), CX w [] H s (fun _ _ _ => False) e s' → False) :
    PySem.W.WalkO q loose XP YP l.row.toRowW d [] (fun f vs => PySem.call f vs) := by
  refine Att.attach_call hn hdf fun w s₀ s₁ mg mb fa o pm cd doc a vs ns G Y ho hd hcd hmg hobj hints hlen hg => ?_
  have KX := hY w _ Y
  obtain ⟨fd, hb, hF⟩ := F w mg fa _ KX G.T.g hmg
  exact law_call KX G.T.g G.T.b G.T.builtins G.T.nolimit hg hobj hints (Nat.le_trans hlen hn2) hr hF hb (fun H hO hS => hsp w H a ns hlen hO hS) fun H e s' => hCX w H s₁ e s'
end L2
namespace L2
open PySem PySem.Spec PyProof.Rows
def defArgs (s : Stmt) : Arguments := match s with
  | .FunctionDef _ a _ _ _ _ _ _ _ _ => a
  | _ => { posonlyargs := [], args := [], vararg := none, kwonlyargs := [], kw_defaults := [], kwarg := none, defaults := [] }
def defBody (s : Stmt) : List Stmt := match s with
  | .FunctionDef _ _ b _ _ _ _ _ _ _ => b
  | _ => []
def defScope (s : Stmt) : Scope := match s with
  | .FunctionDef _ _ _ _ _ _ sc _ _ _ => sc
  | _ => { kind := .function, names := [], isGenerator := false, isCoroutine := false }
abbrev CX0 : CXT := fun _ _ _ _ _ _ => False
abbrev E0 : XK := fun _ _ _ => False
theorem pass0 {X : Cx} : Passes CX0 X E0 := fun _ _ _ _ _ _ _ h => h.elim
structure Fun (K : PySem.W.Frag) (x qual : Str) (st : Stmt) (f : Addr) (fd : FuncData) : Prop where
  ex : ∃ (oc : Value) (od : Option Addr) (kV doc pm : Value) (an : Option Addr) (cdv ct : Value) (osl : Array (Option Value)),
    fd = PySem.W.fnOf x qual (defArgs st) (defBody st) (defScope st) .none kV doc pm an cdv ct ∧ K.lookup f = some ⟨oc, od, .func fd, osl⟩ ∧ PySem.W.codeIn K cdv qual = true
  kp : PySem.W.keepIn K (.ref f) = true
section
variable {P : Program} {w : World} {K : PySem.W.Frag} {mg : Str → Option Value} {base : Heap}
theorem Fun.ok {x qual : Str} {st : Stmt} {f : Addr} {fd : FuncData} {N ps : List Str} {k : Nat} {sp : Sp} (F : Fun K x qual st f fd) (S : FnScope N ps (defScope st)) (len : ∀ vs H Q E, sp vs H Q E → vs.length = ps.length)
    (hbody : ∀ (cdv : Value) (A : Around) (outer : List Env) (s : Shared) (H : Hp) (vs : List V) (Q : VK) (E : XK), Room k (A.deeper (envOfC qual (defScope st) s.heap.objs.size f cdv)) → sp vs H Q E →
      ∃ t, PSs (cxOf CX0 P w K mg base N qual (defScope st) f cdv A outer s H E).nox (defBody st) t ∧ t { nx := fun _ H' => Q .non H', rt := Q } (start N vs) H) : FnOk P w K mg base CX0 (k + 1) f fd ps sp := by
  obtain ⟨oc, od, kV, doc, pm, an, cdv, ct, osl, rfl, lk, hcd⟩ := F.ex
  refine fn_of lk hcd S len fun A outer s H vs Q E hr hsp => ?_
  obtain ⟨t, h, q⟩ := hbody cdv A outer s H vs Q E hr hsp
  exact ⟨t, h.nox, q⟩
theorem Fun.binds {x qual : Str} {st : Stmt} {f : Addr} {fd : FuncData} {ps : List Str} (F : Fun K x qual st f fd)
    (h : ∀ (kV doc pm : Value) (an : Option Addr) (cdv ct : Value) (us : List Value), us.length = ps.length → bindArgs (PySem.W.fnOf x qual (defArgs st) (defBody st) (defScope st) .none kV doc pm an cdv ct) ⟨us, []⟩ = pure (ps.zip us)) : Binds K fd ps [] := by
  obtain ⟨oc, od, kV, doc, pm, an, cdv, ct, osl, rfl, lk, hcd⟩ := F.ex
  exact .all (h kV doc pm an cdv ct)
theorem fun_mk {x qual : Str} {st : Stmt} {f : Addr} {oc : Value} {od an : Option Addr} {osl : Array (Option Value)} {kV doc pm cdv ct : Value} (l : K.lookup f = some ⟨oc, od, .func (PySem.W.fnOf x qual (defArgs st) (defBody st) (defScope st) .none kV doc pm an cdv ct), osl⟩)
    (c : PySem.W.codeIn K cdv qual = true) (k : PySem.W.keepIn K (.ref f) = true) : Fun K x qual st f (PySem.W.fnOf x qual (defArgs st) (defBody st) (defScope st) .none kV doc pm an cdv ct) := ⟨⟨oc, od, kV, doc, pm, an, cdv, ct, osl, rfl, l, c⟩, k⟩
end
section
variable {X : Cx}
end
theorem iteF {A B : Prop} (h : B) : if false = true then A else B := by
  rw [if_neg Bool.false_ne_true]
  exact h
theorem iteT {A B : Prop} (h : A) : if true = true then A else B := by
  rw [if_pos rfl]
  exact h
def Same (H H' : Hp) : Prop := ∀ b o, H b = some o → H' b = some o
theorem Same.refl (H : Hp) : Same H H := fun _ _ h => h
theorem Same.trans {H H1 H2 : Hp} (a : Same H H1) (b : Same H1 H2) : Same H H2 := fun c o h => b c o (a c o h)
theorem Same.free {H H' : Hp} (e : Same H H') {l : Addr} (h : H' l = Option.none) : H l = Option.none := by
  cases q : H l with
  | none => rfl
  | some o =>
    rw [e l o q] at h
    cases h
theorem Same.seq {K : PySem.W.Frag} {H H' : Hp} {a : Addr} {xs : List V} (e : Same H H') (h : SqL K H a xs) : SqL K H' a xs := by
  rcases h with (h | ⟨o, h⟩) | h
  · exact .inl (.inl (e _ _ h))
  · exact .inl (.inr ⟨o, e _ _ h⟩)
  · exact .inr h
end L2
set_option Elab.async false
set_option maxHeartbeats 4000000
namespace L3
abbrev St := L2.St
open PySem PySem.Spec PyProof.Rows L2
inductive D where
  | non | bl (b : Bool) | int (i : Int) | str (x : Str) | tup (xs : List D) | ref (n : Nat) | fn (a : Addr)
inductive Ob where
  | lst (xs : List D) | flst (xs : List D) | iset (f : Int → Bool) (n : Nat) | dct (kvs : List (Key × D))
def Ob.mut : Ob → Bool
  | .flst _ => false
  | _ => true
abbrev Sto := List Ob
abbrev Lo := List (Option D)
mutual
inductive RD (ρ : List Addr) (H : Hp) : D → V → Prop where
  | non : RD ρ H .non .non
  | bl (b : Bool) : RD ρ H (.bl b) (.bl b)
  | int (i : Int) : RD ρ H (.int i) (.int i)
  | str (x : Str) : RD ρ H (.str x) (.str x)
  | tup {xs : List D} {a : Addr} {vs : List V} : H a = some (.tup vs) → RDs ρ H xs vs → RD ρ H (.tup xs) (.ref a)
  | ref {n : Nat} {a : Addr} : ρ[n]? = some a → RD ρ H (.ref n) (.ref a)
  | fn (a : Addr) : RD ρ H (.fn a) (.ref a)
inductive RDs (ρ : List Addr) (H : Hp) : List D → List V → Prop where
  | nil : RDs ρ H [] []
  | cons {x : D} {v : V} {xs : List D} {vs : List V} : RD ρ H x v → RDs ρ H xs vs → RDs ρ H (x :: xs) (v :: vs)
end
structure Ext0 (ρ : List Addr) (H : Hp) (ρ' : List Addr) (H' : Hp) : Prop where
  pre : ∀ (n : Nat) (a : Addr), ρ[n]? = some a → ρ'[n]? = some a
  tup : ∀ a vs, H a = some (.tup vs) → H' a = some (.tup vs)
structure Ext (ρ : List Addr) (H : Hp) (ρ' : List Addr) (H' : Hp) : Prop extends Ext0 ρ H ρ' H' where
  out : ∀ a vs, H a = some (.lst vs) → (∀ n : Nat, ρ[n]? ≠ some a) → H' a = some (.lst vs) ∧ ∀ n : Nat, ρ'[n]? ≠ some a
theorem Ext.refl (ρ : List Addr) (H : Hp) : Ext ρ H ρ H := ⟨⟨fun _ _ h => h, fun _ _ h => h⟩, fun _ _ h n => ⟨h, n⟩⟩
theorem Ext.trans {ρ ρ1 ρ2 : List Addr} {H H1 H2 : Hp} (a : Ext ρ H ρ1 H1) (b : Ext ρ1 H1 ρ2 H2) : Ext ρ H ρ2 H2 :=
  ⟨⟨fun n x h => b.pre n x (a.pre n x h), fun n x h => b.tup n x (a.tup n x h)⟩, fun x vs h n => let ⟨h1, n1⟩ := a.out x vs h n; b.out x vs h1 n1⟩
section
variable {ρ ρ' : List Addr} {H H' : Hp}
mutual
theorem RD.mono0 (e : Ext0 ρ H ρ' H') : ∀ {d : D} {v : V}, RD ρ H d v → RD ρ' H' d v
  | _, _, .non => .non
  | _, _, .bl b => .bl b
  | _, _, .int i => .int i
  | _, _, .str x => .str x
  | _, _, .tup h r => .tup (e.tup _ _ h) (RDs.mono0 e r)
  | _, _, .ref h => .ref (e.pre _ _ h)
  | _, _, .fn a => .fn a
theorem RDs.mono0 (e : Ext0 ρ H ρ' H') : ∀ {d : List D} {v : List V}, RDs ρ H d v → RDs ρ' H' d v
  | _, _, .nil => .nil
  | _, _, .cons r q => .cons (RD.mono0 e r) (RDs.mono0 e q)
end
theorem RD.mono {d : D} {v : V} (r : RD ρ H d v) (e : Ext ρ H ρ' H') : RD ρ' H' d v := r.mono0 e.toExt0
theorem RDs.mono {d : List D} {v : List V} (r : RDs ρ H d v) (e : Ext ρ H ρ' H') : RDs ρ' H' d v := r.mono0 e.toExt0
theorem RDs.length : ∀ {d : List D} {v : List V}, RDs ρ H d v → d.length = v.length
  | _, _, .nil => rfl
  | _, _, .cons _ q => congrArg (· + 1) (RDs.length q)
theorem RDs.get : ∀ {d : List D} {v : List V} {i : Nat} {x : D}, RDs ρ H d v → d[i]? = some x → ∃ u, v[i]? = some u ∧ RD ρ H x u
  | _, _, _, _, .nil, e => by simp at e
  | _, _, 0, _, .cons r _, e => by simp at e; subst e; exact ⟨_, rfl, r⟩
  | _, _, i + 1, x, .cons _ q, e => by
    obtain ⟨u, h1, h2⟩ := RDs.get (i := i) (x := x) q (by simpa using e)
    exact ⟨u, by simpa using h1, h2⟩
theorem RDs.set {x : D} {u : V} (r : RD ρ H x u) : ∀ {d : List D} {v : List V} (i : Nat), RDs ρ H d v → RDs ρ H (d.set i x) (v.set i u)
  | _, _, _, .nil => .nil
  | _, _, 0, .cons _ q => .cons r q
  | _, _, i + 1, .cons p q => .cons p (RDs.set r i q)
theorem RDs.append : ∀ {d e : List D} {v w : List V}, RDs ρ H d v → RDs ρ H e w → RDs ρ H (d ++ e) (v ++ w)
  | _, _, _, _, .nil, q => q
  | _, _, _, _, .cons r p, q => .cons r (RDs.append p q)
theorem RDs.take : ∀ {d : List D} {v : List V} (n : Nat), RDs ρ H d v → RDs ρ H (d.take n) (v.take n)
  | _, _, 0, _ => .nil
  | _, _, _ + 1, .nil => .nil
  | _, _, n + 1, .cons r t => .cons r (RDs.take n t)
theorem RDs.drop : ∀ {d : List D} {v : List V} (n : Nat), RDs ρ H d v → RDs ρ H (d.drop n) (v.drop n)
  | _, _, 0, r => r
  | _, _, _ + 1, .nil => .nil
  | _, _, n + 1, .cons _ t => RDs.drop n t
theorem RDs.rep {xs : List D} {us : List V} (h : RDs ρ H xs us) : ∀ k : Nat, RDs ρ H (List.replicate k xs).flatten (List.replicate k us).flatten
  | 0 => .nil
  | k + 1 => by
    rw [List.replicate_succ, List.replicate_succ, List.flatten_cons, List.flatten_cons]
    exact RDs.append h (RDs.rep h k)
theorem RDs.one {x : D} {vs : List V} (h : RDs ρ H [x] vs) : ∃ v, vs = [v] ∧ RD ρ H x v := by
  cases h with
  | cons r q => cases q; exact ⟨_, rfl, r⟩
theorem RDs.two {x y : D} {vs : List V} (h : RDs ρ H [x, y] vs) : ∃ v u, vs = [v, u] ∧ RD ρ H x v ∧ RD ρ H y u := by
  cases h with
  | cons r q => obtain ⟨u, rfl, r2⟩ := q.one; exact ⟨_, _, rfl, r, r2⟩
end
def Fz (K : PySem.W.Frag) (H : Hp) (a : Addr) (xs : List V) : Prop := (∃ o, H a = some (.frz o (.lst xs))) ∨
    ∃ (o : Obj) (its : Array Value) (n : Nat), K.lookup a = some o ∧ o.cls = .type "list" ∧ o.dict = none ∧ o.data = .seq its n ∧ its.size ≤ sizeLine ∧ Vals xs its.toList
theorem Fz.sq {K : PySem.W.Frag} {H : Hp} {a : Addr} {xs : List V} (h : Fz K H a xs) : SqL K H a xs := by
  rcases h with ⟨o, h⟩ | h
  · exact .inl (.inr ⟨o, h⟩)
  · exact .inr h
def ObR (K : PySem.W.Frag) (ρ : List Addr) (H : Hp) : Ob → Addr → Prop
  | .lst xs, a => ∃ vs, H a = some (.lst vs) ∧ RDs ρ H xs vs
  | .flst xs, a => ∃ vs, Fz K H a vs ∧ RDs ρ H xs vs
  | .iset f n, a => H a = some (.set f n)
  | .dct kvs, a => ∃ vs, H a = some (.dK ((kvs.map (·.1)).zip vs)) ∧ RDs ρ H (kvs.map (·.2)) vs
structure Sim (K : PySem.W.Frag) (ρ : List Addr) (S : Sto) (H : Hp) : Prop where
  len : ρ.length = S.length
  nd : ∀ (i j : Nat) (a : Addr) (o1 o2 : Ob), ρ[i]? = some a → ρ[j]? = some a → S[i]? = some o1 → S[j]? = some o2 → o1.mut = true → o2.mut = true → i = j
  at' : ∀ (n : Nat) (a : Addr) (o : Ob), ρ[n]? = some a → S[n]? = some o → ObR K ρ H o a
section
variable {K : PySem.W.Frag} {ρ ρ' : List Addr} {H : Hp} {S : Sto}
theorem ext_new {p : Addr} {o : HO} (hp : H p = none) : Ext ρ H ρ (upd H p o) :=
  ⟨⟨fun _ _ h => h, fun a vs h => by rw [upd_ne (ne_of_none h hp)]; exact h⟩, fun a vs h n => ⟨by rw [upd_ne (ne_of_none h hp)]; exact h, n⟩⟩
theorem ext0_upd {p : Addr} {o : HO} {ys : List V} (hp : H p = some (.lst ys)) : Ext0 ρ H ρ (upd H p o) :=
  ⟨fun _ _ h => h, fun a vs h => by rw [upd_ne (ne_of h hp (by intro z; cases z))]; exact h⟩
def Plain (u : HO) : Prop := (∀ vs, u ≠ .tup vs) ∧ ∀ o v, u ≠ .frz o v
theorem plain_lst (ys : List V) : Plain (.lst ys) := ⟨fun _ z => (by cases z), fun _ _ z => (by cases z)⟩
theorem ext0_updG {p : Addr} {o u : HO} (hp : H p = some u) (hu : Plain u) : Ext0 ρ H ρ (upd H p o) :=
  ⟨fun _ _ h => h, fun a vs h => by rw [upd_ne (ne_of h hp (fun z => hu.1 vs z.symm))]; exact h⟩
theorem ext_upd {p : Addr} {o : HO} {ys : List V} {n : Nat} (hn : ρ[n]? = some p) (hp : H p = some (.lst ys)) : Ext ρ H ρ (upd H p o) :=
  ⟨ext0_upd hp, fun a vs h hm => ⟨by rw [upd_ne (fun z => hm n (by rw [z]; exact hn))]; exact h, hm⟩⟩
theorem ObR.laid {o : Ob} {a p : Addr} {u : HO} (h : ObR K ρ H o a) (hp : H p = none) : ObR K ρ (upd H p u) o a := by
  cases o with
  | lst xs =>
    obtain ⟨vs, e, r⟩ := h
    exact ⟨vs, by rw [upd_ne (ne_of_none e hp)]; exact e, r.mono (ext_new hp)⟩
  | flst xs =>
    obtain ⟨vs, e, r⟩ := h
    refine ⟨vs, ?_, r.mono (ext_new hp)⟩
    rcases e with ⟨o, e⟩ | e
    · exact .inl ⟨o, by rw [upd_ne (ne_of_none e hp)]; exact e⟩
    · exact .inr e
  | iset f n =>
    show upd H p u a = some (.set f n)
    have e : H a = some (.set f n) := h
    rw [upd_ne (ne_of_none e hp)]; exact e
  | dct kvs =>
    obtain ⟨vs, e, r⟩ := h
    exact ⟨vs, by rw [upd_ne (ne_of_none e hp)]; exact e, r.mono (ext_new hp)⟩
theorem ObR.writtenG {o : Ob} {a p : Addr} {u u0 : HO} (h : ObR K ρ H o a) (hp : H p = some u0) (hu : Plain u0) (hn : o.mut = true → a ≠ p) : ObR K ρ (upd H p u) o a := by
  cases o with
  | lst xs =>
    obtain ⟨vs, e, r⟩ := h
    exact ⟨vs, by rw [upd_ne (hn rfl)]; exact e, r.mono0 (ext0_updG hp hu)⟩
  | flst xs =>
    obtain ⟨vs, e, r⟩ := h
    refine ⟨vs, ?_, r.mono0 (ext0_updG hp hu)⟩
    rcases e with ⟨o, e⟩ | e
    · exact .inl ⟨o, by rw [upd_ne (ne_of e hp (fun z => hu.2 _ _ z.symm))]; exact e⟩
    · exact .inr e
  | iset f n =>
    show upd H p u a = some (.set f n)
    rw [upd_ne (hn rfl)]; exact h
  | dct kvs =>
    obtain ⟨vs, e, r⟩ := h
    exact ⟨vs, by rw [upd_ne (hn rfl)]; exact e, r.mono0 (ext0_updG hp hu)⟩
theorem ObR.written {o : Ob} {a p : Addr} {u : HO} {ys : List V} (h : ObR K ρ H o a) (hp : H p = some (.lst ys)) (hn : o.mut = true → a ≠ p) : ObR K ρ (upd H p u) o a := h.writtenG hp (plain_lst ys) hn
theorem ObR.more {o : Ob} {a : Addr} (h : ObR K ρ H o a) (e : Ext0 ρ H ρ' H) : ObR K ρ' H o a := by
  cases o with
  | lst xs => obtain ⟨vs, e1, r⟩ := h; exact ⟨vs, e1, r.mono0 e⟩
  | flst xs => obtain ⟨vs, e1, r⟩ := h; exact ⟨vs, e1, r.mono0 e⟩
  | iset f n => exact h
  | dct kvs => obtain ⟨vs, e1, r⟩ := h; exact ⟨vs, e1, r.mono0 e⟩
theorem Sim.laid (s : Sim K ρ S H) {p : Addr} {u : HO} (hp : H p = none) : Sim K ρ S (upd H p u) :=
  ⟨s.len, s.nd, fun n a o h1 h2 => (s.at' n a o h1 h2).laid hp⟩
theorem Sim.lst {n : Nat} {xs : List D} (s : Sim K ρ S H) (h : S[n]? = some (.lst xs)) : ∃ a vs, ρ[n]? = some a ∧ H a = some (.lst vs) ∧ RDs ρ H xs vs := by
  have hl : n < ρ.length := by rw [s.len]; exact (List.getElem?_eq_some_iff.mp h).1
  obtain ⟨vs, e, r⟩ := s.at' n _ _ (List.getElem?_eq_getElem hl) h
  exact ⟨_, vs, List.getElem?_eq_getElem hl, e, r⟩
def lstOf (S : Sto) (n : Nat) : Option (List D) := match S[n]? with
  | some (.lst xs) => some xs
  | some (.flst xs) => some xs
  | _ => none
theorem Sim.lstOf {n : Nat} {xs : List D} (s : Sim K ρ S H) (h : L3.lstOf S n = some xs) : ∃ a vs, ρ[n]? = some a ∧ SqL K H a vs ∧ RDs ρ H xs vs := by
  unfold L3.lstOf at h
  cases e : S[n]? with
  | none => rw [e] at h; cases h
  | some o =>
    have hl : n < ρ.length := by rw [s.len]; exact (List.getElem?_eq_some_iff.mp e).1
    have q := s.at' n _ _ (List.getElem?_eq_getElem hl) e
    rw [e] at h
    cases o with
    | lst ys =>
      cases h
      obtain ⟨vs, e1, r⟩ := q
      exact ⟨_, vs, List.getElem?_eq_getElem hl, .inl (.inl e1), r⟩
    | flst ys =>
      cases h
      obtain ⟨vs, e1, r⟩ := q
      exact ⟨_, vs, List.getElem?_eq_getElem hl, e1.sq, r⟩
    | iset f n => cases h
    | dct kvs => cases h
theorem Sim.setG {n : Nat} {a : Addr} {o0 o1 : Ob} {u0 u1 : HO} (s : Sim K ρ S H) (ha : ρ[n]? = some a) (hS : S[n]? = some o0) (hm0 : o0.mut = true) (hH : H a = some u0) (hu : Plain u0) (r : ObR K ρ (upd H a u1) o1 a) : Sim K ρ (S.set n o1) (upd H a u1) := by
  have hl : n < S.length := (List.getElem?_eq_some_iff.mp hS).1
  have key : ∀ (m : Nat) (w : Ob), w.mut = true → (S.set n o1)[m]? = some w → ∃ w', S[m]? = some w' ∧ w'.mut = true := fun m w hw h => by
    by_cases hmn : n = m
    · subst hmn; exact ⟨_, hS, hm0⟩
    · rw [List.getElem?_set_ne hmn] at h; exact ⟨_, h, hw⟩
  refine ⟨by rw [List.length_set]; exact s.len, fun i j b x1 x2 h1 h2 h3 h4 m1 m2 => ?_, fun m b o h1 h2 => ?_⟩
  · obtain ⟨_, h3, q3⟩ := key i x1 m1 h3
    obtain ⟨_, h4, q4⟩ := key j x2 m2 h4
    exact s.nd i j b _ _ h1 h2 h3 h4 q3 q4
  by_cases hmn : n = m
  · subst hmn
    rw [ha] at h1; cases h1
    rw [List.getElem?_set_self hl] at h2
    cases h2
    exact r
  · rw [List.getElem?_set_ne hmn] at h2
    exact (s.at' m b o h1 h2).writtenG hH hu (fun e z => hmn (s.nd n m a _ _ ha (by rw [h1, z]) hS h2 hm0 e))
theorem Sim.set {n : Nat} {a : Addr} {ys : List V} {xs zs : List D} {vs : List V} (s : Sim K ρ S H) (ha : ρ[n]? = some a) (hS : S[n]? = some (.lst zs)) (hH : H a = some (.lst ys)) (r : RDs ρ H xs vs) : Sim K ρ (S.set n (.lst xs)) (upd H a (.lst vs)) :=
  s.setG ha hS rfl hH (plain_lst ys) ⟨vs, upd_same, r.mono0 (ext0_upd hH)⟩
theorem ext0_push {a : Addr} : Ext0 ρ H (ρ ++ [a]) H :=
  ⟨fun n b h => by rw [List.getElem?_append_left (List.getElem?_eq_some_iff.mp h).1]; exact h, fun _ _ h => h⟩
theorem get_push {α : Type} {l : List α} {a b : α} {n : Nat} (h : (l ++ [a])[n]? = some b) : l[n]? = some b ∨ (n = l.length ∧ b = a) := by
  by_cases hl : n < l.length
  · rw [List.getElem?_append_left hl] at h; exact .inl h
  · rw [List.getElem?_append_right (by omega)] at h
    have : n - l.length = 0 := by
      have := (List.getElem?_eq_some_iff.mp h).1
      simp at this; omega
    rw [this] at h; simp at h
    exact .inr ⟨by omega, h.symm⟩
theorem ext_newl {a : Addr} {vs : List V} (ha : H a = none) : Ext ρ H (ρ ++ [a]) (upd H a (.lst vs)) :=
  ⟨⟨ext0_push.pre (H := H), fun b us h => by rw [upd_ne (ne_of_none h ha)]; exact h⟩, fun b us h n => ⟨by rw [upd_ne (ne_of_none h ha)]; exact h, fun i hi => by
    rcases get_push hi with hi | ⟨_, e⟩
    · exact n i hi
    · rw [e, ha] at h; cases h⟩⟩
theorem ext_newG {a : Addr} {u : HO} (ha : H a = none) : Ext ρ H (ρ ++ [a]) (upd H a u) :=
  ⟨⟨ext0_push.pre (H := H), fun b us h => by rw [upd_ne (ne_of_none h ha)]; exact h⟩, fun b us h n => ⟨by rw [upd_ne (ne_of_none h ha)]; exact h, fun i hi => by
    rcases get_push hi with hi | ⟨_, e⟩
    · exact n i hi
    · rw [e, ha] at h; cases h⟩⟩
theorem Sim.pushG {a : Addr} {o1 : Ob} {u : HO} (s : Sim K ρ S H) (ha : H a = none) (r : ObR K (ρ ++ [a]) (upd H a u) o1 a) : Sim K (ρ ++ [a]) (S ++ [o1]) (upd H a u) := by
  have no : ∀ (n : Nat) (o : Ob), o.mut = true → ρ[n]? = some a → S[n]? = some o → False := fun n o hm h1 h2 => by
    have q := s.at' n a _ h1 h2
    cases o with
    | lst xs => obtain ⟨vs, e, _⟩ := q; rw [ha] at e; cases e
    | flst xs => cases hm
    | iset f n => have q : H a = _ := q; rw [ha] at q; cases q
    | dct kvs => obtain ⟨vs, e, _⟩ := q; rw [ha] at e; cases e
  refine ⟨by simp [s.len], fun i j b x1 x2 h1 h2 h3 h4 m1 m2 => ?_, fun n b o h1 h2 => ?_⟩
  · rcases get_push h3 with h3 | ⟨e3, _⟩ <;> rcases get_push h4 with h4 | ⟨e4, _⟩
    · have l1 := (List.getElem?_eq_some_iff.mp h3).1
      have l2 := (List.getElem?_eq_some_iff.mp h4).1
      rcases get_push h1 with h1 | ⟨e1, f1⟩ <;> rcases get_push h2 with h2 | ⟨e2, f2⟩
      · exact s.nd i j b _ _ h1 h2 h3 h4 m1 m2
      · have := s.len; omega
      · have := s.len; omega
      · have := s.len; omega
    · have l1 := (List.getElem?_eq_some_iff.mp h3).1
      rcases get_push h2 with h2 | ⟨e2, f2⟩
      · have := (List.getElem?_eq_some_iff.mp h2).1; have := s.len; omega
      · subst f2
        rcases get_push h1 with h1 | ⟨e1, _⟩
        · exact (no i _ m1 h1 h3).elim
        · have := s.len; omega
    · have l1 := (List.getElem?_eq_some_iff.mp h4).1
      rcases get_push h1 with h1 | ⟨e2, f2⟩
      · have := (List.getElem?_eq_some_iff.mp h1).1; have := s.len; omega
      · subst f2
        rcases get_push h2 with h2 | ⟨e1, _⟩
        · exact (no j _ m2 h2 h4).elim
        · have := s.len; omega
    · omega
  · rcases get_push h2 with h2 | ⟨e2, f2⟩
    · rcases get_push h1 with h1 | ⟨e1, f1⟩
      · exact ((s.at' n b o h1 h2).laid ha).more ext0_push
      · have := (List.getElem?_eq_some_iff.mp h2).1; have := s.len; omega
    · rcases get_push h1 with h1 | ⟨e1, f1⟩
      · have := (List.getElem?_eq_some_iff.mp h1).1; have := s.len; omega
      · subst f1 f2
        exact r
theorem Sim.push {a : Addr} {xs : List D} {vs : List V} (s : Sim K ρ S H) (ha : H a = none) (r : RDs ρ H xs vs) : Sim K (ρ ++ [a]) (S ++ [.lst xs]) (upd H a (.lst vs)) :=
  s.pushG ha ⟨vs, upd_same, r.mono (ext_newl ha)⟩
theorem get_self {α : Type} (l : List α) (a : α) : (l ++ [a])[l.length]? = some a := by
  rw [List.getElem?_append_right (Nat.le_refl _)]; simp
end
structure RO (ρ : List Addr) (H : Hp) (l : Lo) (σ : St) : Prop where
  len : l.length = σ.length
  get : ∀ (i : Nat) (d : D), l[i]? = some (some d) → ∃ v, σ[i]? = some (some v) ∧ RD ρ H d v
theorem RO.mono {ρ ρ' : List Addr} {H H' : Hp} {l : Lo} {σ : St} (r : RO ρ H l σ) (e : Ext ρ H ρ' H') : RO ρ' H' l σ :=
  ⟨r.len, fun i d h => let ⟨v, h1, h2⟩ := r.get i d h; ⟨v, h1, h2.mono e⟩⟩
theorem RO.set {ρ : List Addr} {H : Hp} {l : Lo} {σ : St} {d : D} {v : V} (r : RO ρ H l σ) (i : Nat) (h : RD ρ H d v) : RO ρ H (l.set i (some d)) (σ.set i (some v)) := by
  refine ⟨by simp [r.len], fun j x hj => ?_⟩
  by_cases hij : i = j
  · subst hij
    have hl : i < l.length := by have := (List.getElem?_eq_some_iff.mp hj).1; simpa using this
    rw [List.getElem?_set_self hl] at hj
    cases hj
    exact ⟨v, List.getElem?_set_self (by rw [← r.len]; exact hl), h⟩
  · rw [List.getElem?_set_ne hij] at hj
    rw [List.getElem?_set_ne hij]
    exact r.get j x hj
abbrev EM := Lo → Sto → Option (D × Sto)
abbrev TM := Lo → Sto → Option (Bool × Sto)
abbrev AM := Lo → Sto → Option (List D × Sto)
abbrev FM := List D → Sto → Option (D × Sto)
inductive Fl where
  | nx | bk | ct | rt (d : D)
abbrev SM := Lo → Sto → Option (Fl × Lo × Sto)
abbrev GM := D → Lo → Sto → Option (Lo × Sto)
abbrev GsM := List D → Lo → Sto → Option (Lo × Sto)
def Pv (K : PySem.W.Frag) (ρ : List Addr) (H : Hp) (v : D) (S : Sto) (Q : VK) : Prop := ∀ ρ' H' v', Ext ρ H ρ' H' → Sim K ρ' S H' → RD ρ' H' v v' → Q v' H'
theorem Pv.ext {K : PySem.W.Frag} {ρ ρ1 : List Addr} {H H1 : Hp} {v : D} {S : Sto} {Q : VK} (p : Pv K ρ H v S Q) (e : Ext ρ H ρ1 H1) : Pv K ρ1 H1 v S Q := fun ρ' H' v' e' s r => p ρ' H' v' (e.trans e') s r
def te (K : PySem.W.Frag) (m : EM) : TE := fun σ H Q => ∃ ρ l S v S', Sim K ρ S H ∧ RO ρ H l σ ∧ m l S = some (v, S') ∧ Pv K ρ H v S' Q
def tt (K : PySem.W.Frag) (m : TM) : TT := fun σ H Q => ∃ ρ l S v S', Sim K ρ S H ∧ RO ρ H l σ ∧ m l S = some (v, S') ∧ ∀ ρ' H', Ext ρ H ρ' H' → Sim K ρ' S' H' → Q v H'
def ta (K : PySem.W.Frag) (m : AM) : TA := fun σ H Q => ∃ ρ l S v S', Sim K ρ S H ∧ RO ρ H l σ ∧ m l S = some (v, S') ∧ ∀ ρ' H' vs, Ext ρ H ρ' H' → Sim K ρ' S' H' → RDs ρ' H' v vs → Q vs H'
def ends (ρ : List Addr) (H : Hp) (E : Ends) (σ : St) : Fl → Prop
  | .nx => E.nx σ H
  | .bk => E.bk σ H
  | .ct => E.ct σ H
  | .rt d => ∀ v, RD ρ H d v → E.rt v H
def ts (K : PySem.W.Frag) (m : SM) : TS := fun E σ H => ∃ ρ l S f l' S', Sim K ρ S H ∧ RO ρ H l σ ∧ m l S = some (f, l', S') ∧ ∀ ρ' H' σ', Ext ρ H ρ' H' → Sim K ρ' S' H' → RO ρ' H' l' σ' → ends ρ' H' E σ' f
def tg (K : PySem.W.Frag) (g : GM) : TG := fun v σ H Q => ∃ ρ l S d l' S', Sim K ρ S H ∧ RO ρ H l σ ∧ RD ρ H d v ∧ g d l S = some (l', S') ∧ ∀ ρ' H' σ', Ext ρ H ρ' H' → Sim K ρ' S' H' → RO ρ' H' l' σ' → Q σ' H'
def tgs (K : PySem.W.Frag) (g : GsM) : TGs := fun vs σ H Q => ∃ ρ l S ds l' S', Sim K ρ S H ∧ RO ρ H l σ ∧ RDs ρ H ds vs ∧ g ds l S = some (l', S') ∧ ∀ ρ' H' σ', Ext ρ H ρ' H' → Sim K ρ' S' H' → RO ρ' H' l' σ' → Q σ' H'
def PE3 (X : Cx) (e : Expr) (m : EM) : Prop := PE X e (te X.K m)
def PT3 (X : Cx) (e : Expr) (m : TM) : Prop := PT X e (tt X.K m)
def PW3 (X : Cx) (e : Expr) (m : TM) : Prop := PW X e (tt X.K m)
def PA3 (X : Cx) (es : List Expr) (m : AM) : Prop := PA X es (ta X.K m)
def PS3 (X : Cx) (st : Stmt) (m : SM) : Prop := PS X st (ts X.K m)
def PSs3 (X : Cx) (st : List Stmt) (m : SM) : Prop := PSs X st (ts X.K m)
def PG3 (X : Cx) (tg' : Expr) (m : GM) : Prop := PG X tg' (tg X.K m)
def PGs3 (X : Cx) (ts' : List Expr) (m : GsM) : Prop := PGs X ts' (tgs X.K m)
theorem PE.imp {X : Cx} {e : Expr} {t u : TE} (h : PE X e t) (i : ∀ σ H Q, u σ H Q → t σ H Q) : PE X e u := fun pins s σ H Q I q => h pins s σ H Q I (i _ _ _ q)
theorem PT.imp {X : Cx} {e : Expr} {t u : TT} (h : PT X e t) (i : ∀ σ H Q, u σ H Q → t σ H Q) : PT X e u := fun pins s σ H Q I q => h pins s σ H Q I (i _ _ _ q)
theorem PW.imp {X : Cx} {e : Expr} {t u : TT} (h : PW X e t) (i : ∀ σ H Q, u σ H Q → t σ H Q) : PW X e u := fun wh pins s σ H Q I q => h wh pins s σ H Q I (i _ _ _ q)
theorem PA.imp {X : Cx} {e : List Expr} {t u : TA} (h : PA X e t) (i : ∀ σ H Q, u σ H Q → t σ H Q) : PA X e u := fun pos pins s σ H Q I q => h pos pins s σ H Q I (i _ _ _ q)
theorem PS.imp {X : Cx} {e : Stmt} {t u : TS} (h : PS X e t) (i : ∀ E σ H, u E σ H → t E σ H) : PS X e u := fun pins s σ H Q I q => h pins s σ H Q I (i _ _ _ q)
theorem PSs.imp {X : Cx} {e : List Stmt} {t u : TS} (h : PSs X e t) (i : ∀ E σ H, u E σ H → t E σ H) : PSs X e u := fun pins s σ H Q I q => h pins s σ H Q I (i _ _ _ q)
theorem PG.imp {X : Cx} {e : Expr} {t u : TG} (h : PG X e t) (i : ∀ v σ H Q, u v σ H Q → t v σ H Q) : PG X e u := fun pins s σ H v w Q I r q => h pins s σ H v w Q I r (i _ _ _ _ q)
theorem PGs.imp {X : Cx} {e : List Expr} {t u : TGs} (h : PGs X e t) (i : ∀ v σ H Q, u v σ H Q → t v σ H Q) : PGs X e u := fun pins s σ H v w Q I r q => h pins s σ H v w Q I r (i _ _ _ _ q)
theorem bnd {α β : Type} {o : Option α} {f : α → Option β} {b : β} (h : o.bind f = some b) : ∃ a, o = some a ∧ f a = some b := Option.bind_eq_some_iff.mp h
def eVar (i : Nat) : EM := fun l S => match l[i]? with
  | some (some d) => some (d, S)
  | _ => none
def eC (d : D) : EM := fun _ S => some (d, S)
def eOp (f : D → D → Sto → Option (D × Sto)) (a b : EM) : EM := fun l S => (a l S).bind fun p => (b l p.2).bind fun q => f p.1 q.1 q.2
def eUn (f : D → Sto → Option (D × Sto)) (a : EM) : EM := fun l S => (a l S).bind fun p => f p.1 p.2
def aNil : AM := fun _ S => some ([], S)
def aCons (a : EM) (r : AM) : AM := fun l S => (a l S).bind fun p => (r l p.2).bind fun q => some (p.1 :: q.1, q.2)
def eCall (f : FM) (as : AM) : EM := fun l S => (as l S).bind fun p => f p.1 p.2
def tE (a : EM) : TM := fun l S => (a l S).bind fun p => match p.1 with
  | .bl b => some (b, p.2)
  | _ => none
def tAnd3 (a b : TM) : TM := fun l S => (a l S).bind fun p => if p.1 = true then b l p.2 else some (false, p.2)
def tOr3 (a b : TM) : TM := fun l S => (a l S).bind fun p => if p.1 = true then some (true, p.2) else b l p.2
def tNot3 (a : TM) : TM := fun l S => (a l S).bind fun p => some (!p.1, p.2)
def eAnd3 (a b : EM) : EM := fun l S => (a l S).bind fun p => match p.1 with
  | .bl true => b l p.2
  | .bl false => some (.bl false, p.2)
  | _ => none
def eOr3 (a b : EM) : EM := fun l S => (a l S).bind fun p => match p.1 with
  | .bl true => some (.bl true, p.2)
  | .bl false => b l p.2
  | _ => none
def eNot3 (a : EM) : EM := fun l S => (a l S).bind fun p => match p.1 with
  | .bl b => some (.bl (!b), p.2)
  | _ => none
def eIf3 (c : TM) (a b : EM) : EM := fun l S => (c l S).bind fun p => if p.1 = true then a l p.2 else b l p.2
def Op3 (K : PySem.W.Frag) (f : D → D → Sto → Option (D × Sto)) (r : R2) : Prop :=
  ∀ ρ S H x y x' y' v S' Q, Sim K ρ S H → RD ρ H x x' → RD ρ H y y' → f x y S = some (v, S') → Pv K ρ H v S' Q → r x' y' H Q
def Fn3 (K : PySem.W.Frag) (f : FM) (r : List V → Hp → VK → Prop) : Prop :=
  ∀ ρ S H xs vs v S' Q, Sim K ρ S H → RDs ρ H xs vs → f xs S = some (v, S') → Pv K ρ H v S' Q → r vs H Q
def Mt3 (K : PySem.W.Frag) (f : D → List D → Sto → Option (D × Sto)) (r : V → List V → Hp → VK → Prop) : Prop :=
  ∀ ρ S H x x' xs vs v S' Q, Sim K ρ S H → RD ρ H x x' → RDs ρ H xs vs → f x xs S = some (v, S') → Pv K ρ H v S' Q → r x' vs H Q
theorem te_op {K : PySem.W.Frag} {f : D → D → Sto → Option (D × Sto)} {r : R2} (h : Op3 K f r) {a b : EM} (σ : St) (H : Hp) (Q : VK) (q : te K (eOp f a b) σ H Q) : tOp r (te K a) (te K b) σ H Q := by
  obtain ⟨ρ, l, S, v, S', sim, ro, hm, p⟩ := q
  obtain ⟨⟨x, S1⟩, h1, hm⟩ := bnd hm
  obtain ⟨⟨y, S2⟩, h2, hm⟩ := bnd hm
  exact ⟨ρ, l, S, x, S1, sim, ro, h1, fun ρ1 H1 x' e1 s1 r1 => ⟨ρ1, l, S1, y, S2, s1, ro.mono e1, h2, fun ρ2 H2 y' e2 s2 r2 => h ρ2 S2 H2 x y x' y' v S' Q s2 (r1.mono e2) r2 hm (p.ext (e1.trans e2))⟩⟩
section
variable {X : Cx} {a b c : Expr} {es : List Expr} {ma mb : EM} {mA : AM} {pos : Pos}
theorem p3_var (i : Nat) {x : Str} (hN : X.N[i]? = some x := by rfl) (hv : Vis X.env.scope x := by first | exact Or.inl rfl | exact Or.inr (Or.inl rfl) | exact Or.inr (Or.inr rfl)) (hd : (x == ("__debug__" : Str)) = false := by decide)
    (hcd : (x == ("__classdict__" : Str)) = false := by decide) : PE3 X (.Name x pos) (eVar i) :=
  PE.imp (pe_var hN hv hd hcd) fun σ H Q ⟨ρ, l, S, v, S', sim, ro, hm, p⟩ => by
    unfold eVar at hm
    split at hm
    · rename_i d e
      cases hm
      obtain ⟨w, h1, h2⟩ := ro.get i _ e
      exact ⟨w, h1, p ρ H w (Ext.refl ..) sim h2⟩
    · cases hm
theorem te_c {K : PySem.W.Frag} {d : D} {v : V} (h : ∀ ρ H, RD ρ H d v) (σ : St) (H : Hp) (Q : VK) (q : te K (eC d) σ H Q) : tC v σ H Q := by
  obtain ⟨ρ, l, S, w, S', sim, ro, hm, p⟩ := q
  cases hm
  exact p ρ H v (Ext.refl ..) sim (h ρ H)
theorem p3_int {i j} : PE3 X (.Constant (.int i) j pos) (eC (.int i)) := PE.imp pe_int (te_c fun _ _ => .int i)
theorem p3_bl {i j} : PE3 X (.Constant (.bool i) j pos) (eC (.bl i)) := PE.imp pe_bl (te_c fun _ _ => .bl i)
theorem p3_non {j} : PE3 X (.Constant .none j pos) (eC .non) := PE.imp pe_non (te_c fun _ _ => .non)
theorem p3_str {i j} : PE3 X (.Constant (.str i) j pos) (eC (.str i)) := PE.imp pe_str (te_c fun _ _ => .str i)
theorem p3_globI {x : Str} {i : Int} {t : Tok} (hg : Gl X x) (hm : X.mg x = some (.int i t)) (hd : (x == ("__debug__" : Str)) = false := by decide) : PE3 X (.Name x pos) (eC (.int i)) :=
  PE.imp (pe_glob hg hm (v := .int i) ⟨t, rfl⟩ hd) (te_c fun _ _ => .int i)
theorem p3_op {op : Operator} {f : D → D → Sto → Option (D × Sto)} {r : R2} (ho : OpR X (binaryOp op) r) (h3 : Op3 X.K f r) (ha : PE3 X a ma) (hb : PE3 X b mb) : PE3 X (.BinOp a op b pos) (eOp f ma mb) := PE.imp (pe_op ho ha hb) (te_op h3)
theorem p3_cmp {op : CmpOp} {f : D → D → Sto → Option (D × Sto)} {r : R2} (ho : OpR X (compareOp op) r) (h3 : Op3 X.K f r) (ha : PE3 X a ma) (hb : PE3 X b mb) (hm : behindInMarks op b = false) : PE3 X (.Compare a [op] [b] pos) (eOp f ma mb) := PE.imp (pe_cmpR ho ha hb hm) (te_op h3)
theorem tt_e {K : PySem.W.Frag} {m : EM} (σ : St) (H : Hp) (Q : Bool → Hp → Prop) (q : tt K (tE m) σ H Q) : te K m σ H fun x H' => ∃ k, x = .bl k ∧ Q k H' := by
  obtain ⟨ρ, l, S, v, S', sim, ro, hm, p⟩ := q
  obtain ⟨⟨x, S1⟩, h1, hm⟩ := bnd hm
  refine ⟨ρ, l, S, x, S1, sim, ro, h1, fun ρ' H' v' e s r => ?_⟩
  cases r with
  | bl k => cases hm; exact ⟨_, rfl, p ρ' H' e s⟩
  | _ => cases hm
theorem t3_cmp {op : CmpOp} {f : D → D → Sto → Option (D × Sto)} {r : R2} (ho : OpR X (compareOp op) r) (h3 : Op3 X.K f r) (ha : PE3 X a ma) (hb : PE3 X b mb) (hm : behindInMarks op b = false) : PT3 X (.Compare a [op] [b] pos) (tE (eOp f ma mb)) :=
  PT.imp (pt_cmpR ho ha hb hm) fun σ H Q q => te_op h3 σ H _ (tt_e σ H Q q)
theorem t3_val {m : EM} (h : PE3 X a m) (he : ∀ whole, isTrue a X.env whole = (do let v ← whole; standAt a.pos; holding [v] (truthy v)) := by intro _; rfl) : PT3 X a (tE m) :=
  PT.imp (pt_val h he) fun σ H Q q => tt_e σ H Q q
def eChain (f g : D → D → Sto → Option (D × Sto)) (a b c : EM) : EM := fun l S => (a l S).bind fun p => (b l p.2).bind fun q => (f p.1 q.1 q.2).bind fun r => match r.1 with
  | .bl true => (c l r.2).bind fun s => g q.1 s.1 s.2
  | .bl false => some (.bl false, r.2)
  | _ => none
theorem te_chain {K : PySem.W.Frag} {f g : D → D → Sto → Option (D × Sto)} {r r' : R2} (h : Op3 K f r) (h' : Op3 K g r') {a b c : EM} (σ : St) (H : Hp) (Q : VK) (q : te K (eChain f g a b c) σ H Q) : tChain r r' (te K a) (te K b) (te K c) σ H Q := by
  obtain ⟨ρ, l, S, v, S', sim, ro, hm, p⟩ := q
  obtain ⟨⟨x, S1⟩, h1, hm⟩ := bnd hm
  obtain ⟨⟨y, S2⟩, h2, hm⟩ := bnd hm
  obtain ⟨⟨z, S3⟩, h3, hm⟩ := bnd hm
  refine ⟨ρ, l, S, x, S1, sim, ro, h1, fun ρ1 H1 x' e1 s1 r1 => ⟨ρ1, l, S1, y, S2, s1, ro.mono e1, h2, fun ρ2 H2 y' e2 s2 r2 => ?_⟩⟩
  refine h ρ2 S2 H2 x y x' y' z S3 _ s2 (r1.mono e2) r2 h3 fun ρ3 H3 z' e3 s3 r3 => ?_
  cases r3 with
  | bl k =>
    refine ⟨k, rfl, ?_⟩
    cases k with
    | false =>
      cases hm
      exact iteF (p ρ3 H3 _ (e1.trans (e2.trans e3)) s3 (.bl false))
    | true =>
      obtain ⟨⟨w, S4⟩, h4, hm⟩ := bnd hm
      exact iteT ⟨ρ3, l, S3, w, S4, s3, ro.mono (e1.trans (e2.trans e3)), h4, fun ρ4 H4 w' e4 s4 r4 => h' ρ4 S4 H4 y w y' w' v S' Q s4 (r2.mono (e3.trans e4)) r4 hm (p.ext (e1.trans (e2.trans (e3.trans e4))))⟩
  | _ => cases hm
theorem p3_chain {op op' : CmpOp} {f g : D → D → Sto → Option (D × Sto)} {r r' : R2} {mc : EM} (ho : OpR X (compareOp op) r) (ho' : OpR X (compareOp op') r') (h3 : Op3 X.K f r) (h3' : Op3 X.K g r') (ha : PE3 X a ma) (hb : PE3 X b mb) (hc : PE3 X c mc)
    (hm : lastMarks [op, op'] [b, c] = false := by with_unfolding_all rfl) : PE3 X (.Compare a [op, op'] [b, c] pos) (eChain f g ma mb mc) := PE.imp (pe_chain ho ho' ha hb hc hm) (te_chain h3 h3')
theorem t3_chain {op op' : CmpOp} {f g : D → D → Sto → Option (D × Sto)} {r r' : R2} {mc : EM} (ho : OpR X (compareOp op) r) (ho' : OpR X (compareOp op') r') (h3 : Op3 X.K f r) (h3' : Op3 X.K g r') (ha : PE3 X a ma) (hb : PE3 X b mb) (hc : PE3 X c mc)
    (hm : lastMarks [op, op'] [b, c] = false := by with_unfolding_all rfl) : PT3 X (.Compare a [op, op'] [b, c] pos) (tE (eChain f g ma mb mc)) :=
  PT.imp (pt_chain ho ho' ha hb hc hm) fun σ H Q q => te_chain h3 h3' σ H _ (tt_e σ H Q q)
variable {t u : TM} {rest : List Expr}
theorem tt_and {K : PySem.W.Frag} (σ : St) (H : Hp) (Q : Bool → Hp → Prop) (q : tt K (tAnd3 t u) σ H Q) : L2.tAnd (tt K t) (tt K u) σ H Q := by
  obtain ⟨ρ, l, S, v, S', sim, ro, hm, p⟩ := q
  obtain ⟨⟨x, S1⟩, h1, hm⟩ := bnd hm
  refine ⟨ρ, l, S, x, S1, sim, ro, h1, fun ρ1 H1 e1 s1 => ?_⟩
  cases x with
  | true => exact iteT ⟨ρ1, l, S1, v, S', s1, ro.mono e1, hm, fun ρ2 H2 e2 s2 => p ρ2 H2 (e1.trans e2) s2⟩
  | false => cases hm; exact iteF (p ρ1 H1 e1 s1)
theorem tt_or {K : PySem.W.Frag} (σ : St) (H : Hp) (Q : Bool → Hp → Prop) (q : tt K (tOr3 t u) σ H Q) : L2.tOr (tt K t) (tt K u) σ H Q := by
  obtain ⟨ρ, l, S, v, S', sim, ro, hm, p⟩ := q
  obtain ⟨⟨x, S1⟩, h1, hm⟩ := bnd hm
  refine ⟨ρ, l, S, x, S1, sim, ro, h1, fun ρ1 H1 e1 s1 => ?_⟩
  cases x with
  | false => exact iteF ⟨ρ1, l, S1, v, S', s1, ro.mono e1, hm, fun ρ2 H2 e2 s2 => p ρ2 H2 (e1.trans e2) s2⟩
  | true => cases hm; exact iteT (p ρ1 H1 e1 s1)
theorem w3_and1 (ha : PT3 X a t) : PW3 X (.BoolOp .And [a] pos) t := pw_and1 ha
theorem w3_or1 (ha : PT3 X a t) : PW3 X (.BoolOp .Or [a] pos) t := pw_or1 ha
theorem w3_and (ha : PT3 X a t) (hb : PW3 X (.BoolOp .And (b :: rest) pos) u) : PW3 X (.BoolOp .And (a :: b :: rest) pos) (tAnd3 t u) := PW.imp (pw_and ha hb) tt_and
theorem w3_or (ha : PT3 X a t) (hb : PW3 X (.BoolOp .Or (b :: rest) pos) u) : PW3 X (.BoolOp .Or (a :: b :: rest) pos) (tOr3 t u) := PW.imp (pw_or ha hb) tt_or
theorem t3_w (h : PW3 X a t) : PT3 X a t := PW.pt h
theorem t3_not (ha : PT3 X a t) : PT3 X (.UnaryOp .Not a pos) (tNot3 t) := PT.imp (pt_not ha) fun σ H Q ⟨ρ, l, S, v, S', sim, ro, hm, p⟩ => by
  obtain ⟨⟨x, S1⟩, h1, hm⟩ := bnd hm
  cases hm
  exact ⟨ρ, l, S, x, S1, sim, ro, h1, p⟩
theorem p3_one {op} (h : PE3 X a ma) : PE3 X (.BoolOp op [a] pos) ma := pe_one h
theorem p3_and (ha : PE3 X a ma) (hb : PE3 X (.BoolOp .And (b :: rest) pos) mb) : PE3 X (.BoolOp .And (a :: b :: rest) pos) (eAnd3 ma mb) := PE.imp (pe_and ha hb) fun σ H Q ⟨ρ, l, S, v, S', sim, ro, hm, p⟩ => by
  obtain ⟨⟨x, S1⟩, h1, hm⟩ := bnd hm
  refine ⟨ρ, l, S, x, S1, sim, ro, h1, fun ρ1 H1 x' e1 s1 r1 => ?_⟩
  cases r1 with
  | bl k =>
    refine ⟨k, rfl, ?_⟩
    cases k with
    | true => exact iteT ⟨ρ1, l, S1, v, S', s1, ro.mono e1, hm, p.ext e1⟩
    | false => cases hm; exact iteF (p ρ1 H1 _ e1 s1 (.bl false))
  | _ => cases hm
theorem p3_or (ha : PE3 X a ma) (hb : PE3 X (.BoolOp .Or (b :: rest) pos) mb) : PE3 X (.BoolOp .Or (a :: b :: rest) pos) (eOr3 ma mb) := PE.imp (pe_or ha hb) fun σ H Q ⟨ρ, l, S, v, S', sim, ro, hm, p⟩ => by
  obtain ⟨⟨x, S1⟩, h1, hm⟩ := bnd hm
  refine ⟨ρ, l, S, x, S1, sim, ro, h1, fun ρ1 H1 x' e1 s1 r1 => ?_⟩
  cases r1 with
  | bl k =>
    refine ⟨k, rfl, ?_⟩
    cases k with
    | false => exact iteF ⟨ρ1, l, S1, v, S', s1, ro.mono e1, hm, p.ext e1⟩
    | true => cases hm; exact iteT (p ρ1 H1 _ e1 s1 (.bl true))
  | _ => cases hm
theorem p3_not (ha : PE3 X a ma) : PE3 X (.UnaryOp .Not a pos) (eNot3 ma) := PE.imp (pe_not ha) fun σ H Q ⟨ρ, l, S, v, S', sim, ro, hm, p⟩ => by
  obtain ⟨⟨x, S1⟩, h1, hm⟩ := bnd hm
  refine ⟨ρ, l, S, x, S1, sim, ro, h1, fun ρ1 H1 x' e1 s1 r1 => ?_⟩
  cases r1 with
  | bl k => cases hm; exact ⟨k, rfl, p ρ1 H1 _ e1 s1 (.bl _)⟩
  | _ => cases hm
theorem a3_nil : PA3 X [] aNil := PA.imp pa_nil fun σ H Q ⟨ρ, l, S, v, S', sim, ro, hm, p⟩ => by
  cases hm
  exact p ρ H [] (Ext.refl ..) sim .nil
theorem a3_cons (ha : PE3 X a ma) (hr : PA3 X es mA) (hs : starEach (a :: es) X.env = (false, eval a X.env) :: starEach es X.env := by rfl) : PA3 X (a :: es) (aCons ma mA) := PA.imp (pa_cons ha hr hs) fun σ H Q ⟨ρ, l, S, v, S', sim, ro, hm, p⟩ => by
  obtain ⟨⟨x, S1⟩, h1, hm⟩ := bnd hm
  obtain ⟨⟨y, S2⟩, h2, hm⟩ := bnd hm
  cases hm
  exact ⟨ρ, l, S, x, S1, sim, ro, h1, fun ρ1 H1 x' e1 s1 r1 => ⟨ρ1, l, S1, y, _, s1, ro.mono e1, h2, fun ρ2 H2 vs e2 s2 r2 => p ρ2 H2 _ (e1.trans e2) s2 (.cons (r1.mono e2) r2)⟩⟩
def fTup : FM := fun xs S => if xs.length ≤ sizeLine then some (.tup xs, S) else none
def fLst : FM := fun xs S => if xs.length ≤ sizeLine then some (.ref S.length, S ++ [.lst xs]) else none
theorem ite_some {α : Type} {c : Prop} [Decidable c] {a b : α} (h : (if c then some a else none) = some b) : c ∧ a = b := by
  by_cases hc : c
  · rw [if_pos hc] at h; exact ⟨hc, Option.some.inj h⟩
  · rw [if_neg hc] at h; cases h
theorem new_tup {K : PySem.W.Frag} {ρ : List Addr} {S : Sto} {H : Hp} {xs : List D} {vs : List V} {Q : VK} (sim : Sim K ρ S H) (r : RDs ρ H xs vs) (p : Pv K ρ H (.tup xs) S Q) : ∀ a, H a = none → Q (.ref a) (upd H a (.tup vs)) := fun a ha =>
  p ρ _ _ (ext_new ha) (sim.laid ha) (.tup upd_same (r.mono (ext_new ha)))
theorem new_lst {K : PySem.W.Frag} {ρ : List Addr} {S : Sto} {H : Hp} {xs : List D} {vs : List V} {Q : VK} (sim : Sim K ρ S H) (r : RDs ρ H xs vs) (p : Pv K ρ H (.ref S.length) (S ++ [.lst xs]) Q) : ∀ a, H a = none → Q (.ref a) (upd H a (.lst vs)) := fun a ha =>
  p (ρ ++ [a]) _ _ (ext_newl ha) (sim.push ha r) (.ref (by rw [← sim.len]; exact get_self ρ a))
theorem p3_tup {x1} (h : PA3 X es mA) : PE3 X (.Tuple es x1 pos) (eCall fTup mA) := PE.imp (pe_tup h) fun σ H Q ⟨ρ, l, S, v, S', sim, ro, hm, p⟩ => by
  obtain ⟨⟨x, S1⟩, h1, hm⟩ := bnd hm
  obtain ⟨hz, e⟩ := ite_some hm
  cases e
  exact ⟨ρ, l, S, x, _, sim, ro, h1, fun ρ1 H1 vs e1 s1 r1 => ⟨by rw [← r1.length]; exact hz, new_tup s1 r1 (p.ext e1)⟩⟩
theorem p3_lst (h : PA3 X es mA) : PE3 X (.List es pos) (eCall fLst mA) := PE.imp (pe_lst h) fun σ H Q ⟨ρ, l, S, v, S', sim, ro, hm, p⟩ => by
  obtain ⟨⟨x, S1⟩, h1, hm⟩ := bnd hm
  obtain ⟨hz, e⟩ := ite_some hm
  cases e
  exact ⟨ρ, l, S, x, _, sim, ro, h1, fun ρ1 H1 vs e1 s1 r1 => ⟨by rw [← r1.length]; exact hz, new_lst s1 r1 (p.ext e1)⟩⟩
theorem te_call {K : PySem.W.Frag} {f : FM} {r : List V → Hp → VK → Prop} (h3 : Fn3 K f r) (σ : St) (H : Hp) (Q : VK) (q : te K (eCall f mA) σ H Q) : tCB r (ta K mA) σ H Q := by
  obtain ⟨ρ, l, S, v, S', sim, ro, hm, p⟩ := q
  obtain ⟨⟨x, S1⟩, h1, hm⟩ := bnd hm
  exact ⟨ρ, l, S, x, S1, sim, ro, h1, fun ρ1 H1 vs e1 s1 r1 => h3 ρ1 S1 H1 x vs v S' Q s1 r1 hm (p.ext e1)⟩
theorem p3_callB {x : Str} {p : Pos} {id : String} {f : FM} {r : List V → Hp → VK → Prop} (hc : CallR X (.builtin id) r) (h3 : Fn3 X.K f r) (hg : Gl X x) (hm : X.mg x = none) (hv : bootBuiltins x = some (.builtin id)) (ha : PA3 X (a :: es) mA) (hn : x ≠ "__name__" := by decide) (hdb : (x == ("__debug__" : Str)) = false := by decide)
    (he : starEach (a :: es) X.env = (false, eval a X.env) :: starEach es X.env := by rfl) (hpl : (backTo pos (starEach es X.env)).any (·.1) = false := by rfl) : PE3 X (.Call (.Name x p) (a :: es) [] pos) (eCall f mA) :=
  PE.imp (pe_callB hc hg hm hv ha hn hdb he hpl) (te_call h3)
theorem p3_callTy {x : Str} {p : Pos} {T : String} {f : FM} {r : List V → Hp → VK → Prop} (hc : CallR X (.type T) r) (h3 : Fn3 X.K f r) (hg : Gl X x) (hm : X.mg x = none) (hv : bootBuiltins x = some (.type T)) (ha : PA3 X (a :: es) mA) (hn : x ≠ "__name__" := by decide) (hdb : (x == ("__debug__" : Str)) = false := by decide)
    (he : starEach (a :: es) X.env = (false, eval a X.env) :: starEach es X.env := by rfl) (hpl : (backTo pos (starEach es X.env)).any (·.1) = false := by rfl) : PE3 X (.Call (.Name x p) (a :: es) [] pos) (eCall f mA) :=
  PE.imp (pe_callTy hc hg hm hv ha hn hdb he hpl) (te_call h3)
end
end L3
set_option Elab.async false
set_option maxHeartbeats 4000000
namespace L3
open PySem PySem.Spec PyProof.Rows L2
def oI (C : Int → Int → Bool) (g : Int → Int → D) : D → D → Sto → Option (D × Sto)
  | .int i, .int j, S => if C i j = true then some (g i j, S) else none
  | _, _, _ => none
def oI0 (g : Int → Int → D) : D → D → Sto → Option (D × Sto)
  | .int i, .int j, S => some (g i j, S)
  | _, _, _ => none
theorem op3_I {K : PySem.W.Frag} {C : Int → Int → Bool} {C' : Int → Int → Prop} {g : Int → Int → D} {g' : Int → Int → V} (hC : ∀ i j, C i j = true → C' i j) (hg : ∀ ρ H i j, RD ρ H (g i j) (g' i j)) : Op3 K (oI C g) (rI C' g') := by
  intro ρ S H x y x' y' v S' Q sim rx ry h p
  unfold oI at h
  split at h
  · rename_i i j
    cases rx; cases ry
    obtain ⟨hc, e⟩ := ite_some h
    cases e
    exact ⟨i, j, rfl, rfl, hC i j hc, p ρ H _ (Ext.refl ..) sim (hg ρ H i j)⟩
  · cases h
theorem op3_I0 {K : PySem.W.Frag} {g : Int → Int → D} {g' : Int → Int → V} (hg : ∀ ρ H i j, RD ρ H (g i j) (g' i j)) : Op3 K (oI0 g) (rI0 g') := by
  intro ρ S H x y x' y' v S' Q sim rx ry h p
  unfold oI0 at h
  split at h
  · rename_i i j
    cases rx; cases ry
    cases h
    exact ⟨i, j, rfl, rfl, p ρ H _ (Ext.refl ..) sim (hg ρ H i j)⟩
  · cases h
theorem Op3.or {K : PySem.W.Frag} {f : D → D → Sto → Option (D × Sto)} {g : D → D → Sto → Option (D × Sto)} {r r' : R2} (h : Op3 K f r) (h' : Op3 K g r') : Op3 K (fun x y S => match f x y S with | some v => some v | none => g x y S) (fun x y H Q => r x y H Q ∨ r' x y H Q) := by
  intro ρ S H x y x' y' v S' Q sim rx ry hm p
  dsimp only at hm
  cases e : f x y S with
  | some w => rw [e] at hm; cases hm; exact .inl (h ρ S H x y x' y' _ _ Q sim rx ry e p)
  | none => rw [e] at hm; exact .inr (h' ρ S H x y x' y' _ _ Q sim rx ry hm p)
abbrev dSub := oI0 fun i j => .int (i - j)
abbrev dDiv := oI (fun i j => decide (0 < j ∧ j < 1073741824)) fun i j => .int (i / j)
abbrev dMod := oI (fun i j => decide (0 < j)) fun i j => .int (i % j)
abbrev dPow := oI (fun i j => decide (0 ≤ j ∧ j ≤ 1000000 ∧ i.natAbs < 2 ^ 64)) fun i j => .int (i ^ j.toNat)
abbrev dLt := oI0 fun i j => .bl (decide (i < j))
abbrev dLe := oI0 fun i j => .bl (decide (i ≤ j))
abbrev dGt := oI0 fun i j => .bl (decide (j < i))
abbrev dGe := oI0 fun i j => .bl (decide (j ≤ i))
section
variable {X : Cx} {a b : Expr} {ma mb : EM} {pos : Pos}
theorem p3_sub (ha : PE3 X a ma) (hb : PE3 X b mb) : PE3 X (.BinOp a .Sub b pos) (eOp dSub ma mb) := p3_op op_sub (op3_I0 fun _ _ _ _ => .int _) ha hb
theorem p3_div (ha : PE3 X a ma) (hb : PE3 X b mb) : PE3 X (.BinOp a .FloorDiv b pos) (eOp dDiv ma mb) := p3_op op_fdiv (op3_I (fun i j h => by first | (unfold CMul; exact of_decide_eq_true h) | (unfold CDiv; exact of_decide_eq_true h) | (unfold CPow; exact of_decide_eq_true h) | exact of_decide_eq_true h) fun _ _ _ _ => .int _) ha hb
theorem p3_mod (ha : PE3 X a ma) (hb : PE3 X b mb) : PE3 X (.BinOp a .Mod b pos) (eOp dMod ma mb) := p3_op op_mod (op3_I (fun i j h => by first | (unfold CMul; exact of_decide_eq_true h) | (unfold CDiv; exact of_decide_eq_true h) | (unfold CPow; exact of_decide_eq_true h) | exact of_decide_eq_true h) fun _ _ _ _ => .int _) ha hb
theorem p3_pow (ha : PE3 X a ma) (hb : PE3 X b mb) : PE3 X (.BinOp a .Pow b pos) (eOp dPow ma mb) := p3_op op_pow (op3_I (fun i j h => by first | (unfold CMul; exact of_decide_eq_true h) | (unfold CDiv; exact of_decide_eq_true h) | (unfold CPow; exact of_decide_eq_true h) | exact of_decide_eq_true h) fun _ _ _ _ => .int _) ha hb
theorem t3_lt (ha : PE3 X a ma) (hb : PE3 X b mb) : PT3 X (.Compare a [.Lt] [b] pos) (tE (eOp dLt ma mb)) := t3_cmp op_lt (op3_I0 fun _ _ _ _ => .bl _) ha hb (nomark b)
theorem t3_gt (ha : PE3 X a ma) (hb : PE3 X b mb) : PT3 X (.Compare a [.Gt] [b] pos) (tE (eOp dGt ma mb)) := t3_cmp op_gt (op3_I0 fun _ _ _ _ => .bl _) ha hb (nomark b)
theorem t3_ge (ha : PE3 X a ma) (hb : PE3 X b mb) : PT3 X (.Compare a [.GtE] [b] pos) (tE (eOp dGe ma mb)) := t3_cmp op_ge (op3_I0 fun _ _ _ _ => .bl _) ha hb (nomark b)
end
def sEq : D → D → Option Bool
  | .non, .non => some true | .non, .int _ => some false | .int _, .non => some false | .non, .bl _ => some false | .bl _, .non => some false | .non, .str _ => some false | .str _, .non => some false
  | .int i, .int j => some (decide (i = j)) | .bl i, .bl j => some (decide (i = j)) | .str i, .str j => some (decide (i = j))
  | .int _, .str _ => some false | .str _, .int _ => some false | .bl _, .str _ => some false | .str _, .bl _ => some false
  | _, _ => none
def dEq : D → D → Sto → Option (D × Sto) := fun x y S => (sEq x y).bind fun b => some (.bl b, S)
def dNe : D → D → Sto → Option (D × Sto) := fun x y S => (sEq x y).bind fun b => some (.bl (!b), S)
theorem sEq_ok {ρ : List Addr} {H : Hp} {x y : D} {x' y' : V} {b : Bool} (rx : RD ρ H x x') (ry : RD ρ H y y') (h : sEq x y = some b) : scal x' y' = true ∧ decide (x' = y') = b := by
  cases rx <;> cases ry <;> first
    | (unfold sEq at h; cases h; exact ⟨rfl, by simp⟩)
    | (unfold sEq at h; cases h; exact ⟨rfl, by simp; rfl⟩)
    | (unfold sEq at h; cases h)
theorem op3_eq {K : PySem.W.Frag} : Op3 K dEq rEq := by
  intro ρ S H x y x' y' v S' Q sim rx ry h p
  obtain ⟨b, h1, h⟩ := bnd h
  cases h
  obtain ⟨h2, h3⟩ := sEq_ok rx ry h1
  exact ⟨h2, by rw [h3]; exact p ρ H _ (Ext.refl ..) sim (.bl b)⟩
theorem op3_ne {K : PySem.W.Frag} : Op3 K dNe rNe := by
  intro ρ S H x y x' y' v S' Q sim rx ry h p
  obtain ⟨b, h1, h⟩ := bnd h
  cases h
  obtain ⟨h2, h3⟩ := sEq_ok rx ry h1
  exact ⟨h2, by rw [h3]; exact p ρ H _ (Ext.refl ..) sim (.bl _)⟩
def isNon : D → Bool
  | .non => true
  | _ => false
def dIs : D → D → Sto → Option (D × Sto)
  | x, .non, S => some (.bl (isNon x), S)
  | _, _, _ => none
def dIsNot : D → D → Sto → Option (D × Sto)
  | x, .non, S => some (.bl (!isNon x), S)
  | _, _, _ => none
theorem isNon_ok {ρ : List Addr} {H : Hp} {x : D} {x' : V} (r : RD ρ H x x') : decide (x' = .non) = isNon x := by
  cases r <;> simp [isNon]
theorem op3_is {K : PySem.W.Frag} : Op3 K dIs (fun x y H Q => y = .non ∧ Q (.bl (decide (x = .non))) H) := by
  intro ρ S H x y x' y' v S' Q sim rx ry h p
  unfold dIs at h
  split at h
  · cases h; cases ry
    exact ⟨rfl, by rw [isNon_ok rx]; exact p ρ H _ (Ext.refl ..) sim (.bl _)⟩
  · cases h
theorem op3_isnot {K : PySem.W.Frag} : Op3 K dIsNot (fun x y H Q => y = .non ∧ Q (.bl (!decide (x = .non))) H) := by
  intro ρ S H x y x' y' v S' Q sim rx ry h p
  unfold dIsNot at h
  split at h
  · cases h; cases ry
    exact ⟨rfl, by rw [isNon_ok rx]; exact p ρ H _ (Ext.refl ..) sim (.bl _)⟩
  · cases h
section
variable {X : Cx} {a b : Expr} {ma mb : EM} {pos : Pos}
theorem p3_eq (ha : PE3 X a ma) (hb : PE3 X b mb) : PE3 X (.Compare a [.Eq] [b] pos) (eOp dEq ma mb) := p3_cmp op_eq op3_eq ha hb (nomark b)
theorem p3_is (ha : PE3 X a ma) (hb : PE3 X b mb) : PE3 X (.Compare a [.Is] [b] pos) (eOp dIs ma mb) := p3_cmp op_isN op3_is ha hb (nomark b)
theorem t3_eq (ha : PE3 X a ma) (hb : PE3 X b mb) : PT3 X (.Compare a [.Eq] [b] pos) (tE (eOp dEq ma mb)) := t3_cmp op_eq op3_eq ha hb (nomark b)
theorem t3_ne (ha : PE3 X a ma) (hb : PE3 X b mb) : PT3 X (.Compare a [.NotEq] [b] pos) (tE (eOp dNe ma mb)) := t3_cmp op_ne op3_ne ha hb (nomark b)
theorem t3_isnot (ha : PE3 X a ma) (hb : PE3 X b mb) : PT3 X (.Compare a [.IsNot] [b] pos) (tE (eOp dIsNot ma mb)) := t3_cmp op_notN op3_isnot ha hb (nomark b)
end
def dIx : D → D → Sto → Option (D × Sto)
  | .tup xs, .int i, S => (atI xs i).bind fun v => some (v, S)
  | .ref n, .int i, S => (lstOf S n).bind fun xs => (atI xs i).bind fun v => some (v, S)
  | _, _, _ => none
theorem atI_rd {ρ : List Addr} {H : Hp} {xs : List D} {vs : List V} {i : Int} {x : D} (r : RDs ρ H xs vs) (h : atI xs i = some x) : ∃ v, atI vs i = some v ∧ RD ρ H x v := by
  unfold atI at h ⊢
  rw [← r.length]
  cases e : ixN xs.length i with
  | none => rw [e] at h; cases h
  | some j =>
    rw [e] at h
    exact r.get (i := j) h
theorem op3_ix {K : PySem.W.Frag} : Op3 K dIx (rIx K) := by
  intro ρ S H x y x' y' v S' Q sim rx ry h p
  unfold dIx at h
  split at h
  · cases ry
    obtain ⟨w, h1, h⟩ := bnd h
    cases h
    cases rx with
    | tup ha r =>
      obtain ⟨u, h2, r2⟩ := atI_rd r h1
      exact .inr (.inl ⟨_, _, _, u, rfl, rfl, SqT.of ha, h2, p ρ H u (Ext.refl ..) sim r2⟩)
  · cases ry
    obtain ⟨xs, h0, h⟩ := bnd h
    obtain ⟨w, h1, h⟩ := bnd h
    cases h
    cases rx with
    | ref hn =>
      obtain ⟨a, vs, ha, sq, r⟩ := sim.lstOf h0
      rw [ha] at hn; cases hn
      obtain ⟨u, h2, r2⟩ := atI_rd r h1
      exact .inl ⟨_, _, _, u, rfl, rfl, sq, h2, p ρ H u (Ext.refl ..) sim r2⟩
  · cases h
section
variable {X : Cx} {a b : Expr} {ma mb : EM} {pos : Pos}
theorem p3_ix (ha : PE3 X a ma) (hb : PE3 X b mb) (hs : PlainIx b := by intro _ _; rfl) : PE3 X (.Subscript a b pos) (eOp dIx ma mb) := PE.imp (pe_ix ix_seq ha hb hs) (te_op op3_ix)
end
abbrev OM := Lo → Sto → Option (Option Int × Sto)
def oNone : OM := fun _ S => some (none, S)
def oSome (m : EM) : OM := fun l S => (m l S).bind fun p => match p.1 with
  | .int i => some (some i, p.2)
  | _ => none
def cutD (xs : List D) (lo hi : Option Int) : List D := (xs.drop (HT.sIx xs.length 0 lo)).take (HT.sIx xs.length xs.length hi - HT.sIx xs.length 0 lo)
def eSl (m : EM) (lo hi : OM) : EM := fun l S => (m l S).bind fun p => (lo l p.2).bind fun q => (hi l q.2).bind fun r => match p.1 with
  | .tup xs => some (.tup (cutD xs q.1 r.1), r.2)
  | _ => none
def tO (K : PySem.W.Frag) (m : OM) : TO := fun σ H Q => ∃ ρ l S v S', Sim K ρ S H ∧ RO ρ H l σ ∧ m l S = some (v, S') ∧ ∀ ρ' H', Ext ρ H ρ' H' → Sim K ρ' S' H' → Q v H'
def PO3 (X : Cx) (e : Option Expr) (m : OM) : Prop := PO X e (tO X.K m)
section
variable {X : Cx} {a b : Expr} {ma mb : EM} {pos p2 : Pos} {lo hi : Option Expr} {ml mh : OM}
theorem PO.imp {e : Option Expr} {t u : TO} (h : PO X e t) (i : ∀ σ H Q, u σ H Q → t σ H Q) : PO X e u := fun pins s σ H Q I q => h pins s σ H Q I (i _ _ _ q)
theorem o3_none : PO3 X none oNone := PO.imp po_none fun σ H Q ⟨ρ, l, S, v, S', sim, ro, hm, p⟩ => by
  cases hm
  exact p ρ H (Ext.refl ..) sim
theorem o3_some (h : PE3 X a ma) : PO3 X (some a) (oSome ma) := PO.imp (po_some h) fun σ H Q ⟨ρ, l, S, v, S', sim, ro, hm, p⟩ => by
  obtain ⟨⟨x, S1⟩, h1, hm⟩ := bnd hm
  refine ⟨ρ, l, S, x, S1, sim, ro, h1, fun ρ1 H1 x' e1 s1 r1 => ?_⟩
  cases r1 with
  | int i => cases hm; exact ⟨i, rfl, p ρ1 H1 e1 s1⟩
  | _ => cases hm
end
end L3
namespace HT
open PySem PyProof.Rows
section
variable {prog : Program} {w : World} {A : Around} {E : Value → Shared → Prop} {s : Shared}
theorem getItem_tuple_whole {t sl : Addr} {items : Array Value} {vl vu : Value} {lo hi : Option Int} {Q : Value → Shared → Prop} (ht : IsTup s.heap t items) (hs : s.heap.IsSliceOf sl vl vu .none) (pl : IsPart vl lo) (pu : IsPart vu hi)
    (hw : sIx items.size 0 lo = 0 ∧ sIx items.size items.size hi = items.size)
    (h : Q (.ref t) s) : wpAny (model prog w) A (getItem (.ref t) (.ref sl)) Q E s := by
  obtain ⟨os, hos, hcs, hds⟩ := id hs
  have hTs : s.TypeIs (.ref sl) "slice" := ⟨os, hos, hcs⟩
  unfold getItem
  try with_reducible refine wpAny_holding ?_
  first | refine wpAny_bind (wpAny_pure ?_) | skip
  refine wpAny_bind (wpAny_sequenceKey ht.typeIs (by decide) ?_)
  refine wpAny_bind (wpAny_callSpecial?_slot (name := Str.ofString "__getitem__") ht.typeIs PyProof.Rows.slot_tuple_getitem
    (wpAny_call_entry PyProof.Rows.slot_tuple_getitem ht.typeIs entry_tuple_getitem ?_ (args_tuple_getitem _ _)))
  show wpAny _ _ (Builtin.Tuple.tupleItemsOf (.ref t) >>= _) _ _ s
  refine wpAny_bind (tupleItemsOf_ ht ?_)
  refine wpAny_bind (wpAny_typeOf hTs ?_)
  rw [if_pos (by decide)]
  refine wpAny_bind (sliceApplied_gen hs pl pu ?_)
  have hyes : ((((sIx items.size 0 lo : Nat) : Int) == 0 && (1 : Int) == 1 && (sIx items.size items.size hi - sIx items.size 0 lo) == items.size) = true) := by
    rw [hw.1, hw.2]; simp
  show wpAny _ _ (if (((sIx items.size 0 lo : Nat) : Int) == 0 && (1 : Int) == 1 && (sIx items.size items.size hi - sIx items.size 0 lo) == items.size) = true then _ else _) _ _ s
  rw [if_pos hyes]
  unfold Builtin.Tuple.tupleIsExact
  refine wpAny_bind (wpAny_bind (wpAny_typeOf ht.typeIs (wpAny_pure ?_)))
  rw [if_pos (by decide)]
  exact wpAny_bind (wpAny_rule (wpAny_bind (wpAny_pure (wpAny_pure ⟨_, rfl, wpAny_pure h⟩))))
end
end HT
namespace L3
open PySem PySem.Spec PyProof.Rows L2
section
variable {X : Cx} {a b : Expr} {ma mb : EM} {pos p2 : Pos} {lo hi : Option Expr} {ml mh : OM}
def rSlW (K : PySem.W.Frag) : V → Option Int → Option Int → Hp → VK → Prop := fun x lo hi H Q => ∃ a xs, x = .ref a ∧ SqT K H a xs ∧
  (HT.sIx xs.length 0 lo = 0 ∧ HT.sIx xs.length xs.length hi = xs.length) ∧ Q (.ref a) H
theorem sl_tupW : SlR X (rSlW X.K) := by
  intro pins s σ H x v vl vu lo hi sl Q I rx hs pl pu h
  obtain ⟨a, xs, rfl, hx, hw, q⟩ := h
  cases rx
  obtain ⟨its, r, ht, hz⟩ := I.tuple hx
  have hlen : its.toArray.size = xs.length := by rw [List.size_toArray]; exact r.length.symm
  refine ⟨"tuple", _, PyProof.Rows.slot_tuple_getitem.lookup, ht.typeIs, ?_⟩
  exact HT.getItem_tuple_whole ht hs pl pu (by rw [hlen]; exact hw) ⟨.ref a, H, I, rfl, q⟩
theorem cut_whole (xs : List D) (lo hi : Option Int) (h : HT.sIx xs.length 0 lo = 0 ∧ HT.sIx xs.length xs.length hi = xs.length) : cutD xs lo hi = xs := by
  unfold cutD; rw [h.1, h.2]; simp
theorem p3_sl (he : PE3 X a ma) (hl : PO3 X lo ml) (hu : PO3 X hi mh) : PE3 X (.Subscript a (.Slice lo hi none p2) pos) (eSl ma ml mh) := PE.imp (pe_slice (sl_tup.or sl_tupW) he hl hu) fun σ H Q ⟨ρ, l, S, v, S', sim, ro, hm, p⟩ => by
  obtain ⟨⟨x, S1⟩, h1, hm⟩ := bnd hm
  obtain ⟨⟨y, S2⟩, h2, hm⟩ := bnd hm
  obtain ⟨⟨z, S3⟩, h3, hm⟩ := bnd hm
  refine ⟨ρ, l, S, x, S1, sim, ro, h1, fun ρ1 H1 x' e1 s1 r1 => ⟨ρ1, l, S1, y, S2, s1, ro.mono e1, h2, fun ρ2 H2 e2 s2 => ⟨ρ2, l, S2, z, S3, s2, ro.mono (e1.trans e2), h3, fun ρ3 H3 e3 s3 => ?_⟩⟩⟩
  have e13 := e1.trans (e2.trans e3)
  cases r1 with
  | @tup xs a vs ha r =>
    cases hm
    have ha3 := (e2.trans e3).tup _ _ ha
    have r3 := r.mono (e2.trans e3)
    have hlen := r.length
    by_cases hw : HT.sIx vs.length 0 y = 0 ∧ HT.sIx vs.length vs.length z = vs.length
    · refine .inr ⟨a, vs, rfl, SqT.of ha3, hw, ?_⟩
      have := cut_whole xs y z (by rw [hlen]; exact hw)
      dsimp only at p
      rw [this] at p
      exact p ρ3 H3 _ e13 s3 (.tup ha3 r3)
    · refine .inl ⟨a, vs, rfl, SqT.of ha3, hw, ?_⟩
      have rc : RDs ρ3 H3 (cutD xs y z) (cutV vs y z) := by
        unfold cutD cutV
        rw [hlen]
        exact (r3.drop _).take _
      exact new_tup s3 rc (p.ext e13)
  | _ => cases hm
end
def dCatT : D → D → Sto → Option (D × Sto)
  | .tup xs, .tup ys, S => if xs.length + ys.length ≤ sizeLine then some (.tup (xs ++ ys), S) else none
  | _, _, _ => none
def rCatT0 (K : PySem.W.Frag) : R2 := fun x y H Q => ∃ a b ys, x = .ref a ∧ y = .ref b ∧ SqT K H a [] ∧ SqT K H b ys ∧ Q (.ref b) H
theorem op_catT0 {X : Cx} : OpR X (binaryOp .Add) (rCatT0 X.K) := by
  intro pins s σ H x y v u Q I rx ry h
  obtain ⟨a, b, ys, rfl, rfl, ha, hb, q⟩ := h
  cases rx
  cases ry
  obtain ⟨its, r1, p1, _⟩ := I.tuple ha
  obtain ⟨its2, r2, p2, _⟩ := I.tuple hb
  cases r1
  obtain ⟨⟨cls, dd, data, sl⟩, ho, hc, n, hd⟩ := id p1
  obtain ⟨⟨cls2, dd2, data2, sl2⟩, ho2, hc2, n2, hd2⟩ := id p2
  simp only at hc hd hc2 hd2
  subst hc hd hc2 hd2
  exact concat_meets ⟨_, ho, rfl⟩ ⟨_, ho2, rfl⟩ noFill_tuple_add seq_tuple_add PySem.F.slot_tuple_add PySem.F.entry_tuple_add (PySem.F.args_tuple_add_2 _ _)
      (tuple_addW0 a b ([] : List Value).toArray its2.toArray n n2 dd dd2 sl sl2 (by simp)) ⟨ho, ho2, ⟨.ref b, H, I, rfl, q⟩⟩
theorem op3_catT {K : PySem.W.Frag} : Op3 K dCatT (fun x y H Q => rCatT K x y H Q ∨ rCatT0 K x y H Q) := by
  intro ρ S H x y x' y' v S' Q sim rx ry h p
  unfold dCatT at h
  split at h
  · obtain ⟨hz, e⟩ := ite_some h
    cases e
    cases rx with
    | @tup xs a vs ha r =>
      cases ry with
      | @tup ys b ws hb q =>
        cases r with
        | nil => exact .inr ⟨a, b, ws, rfl, rfl, SqT.of ha, SqT.of hb, p ρ H _ (Ext.refl ..) sim (.tup hb q)⟩
        | cons r1 r2 =>
          refine .inl ⟨a, b, _, ws, rfl, rfl, SqT.of ha, SqT.of hb, by simp, by rw [← (RDs.cons r1 r2).length, ← q.length]; exact hz, fun e => ?_, fun _ => ?_⟩
          · subst e
            cases q
            rw [List.append_nil] at p
            exact p ρ H _ (Ext.refl ..) sim (.tup ha (.cons r1 r2))
          · exact new_tup sim ((RDs.cons r1 r2).append q) p
  · cases h
section
variable {X : Cx} {a b : Expr} {ma mb : EM} {pos : Pos}
end
end L3
set_option Elab.async false
set_option maxHeartbeats 4000000
namespace L3
open PySem PySem.Spec PyProof.Rows L2
def fLen : FM
  | [.tup xs], S => some (.int xs.length, S)
  | [.ref n], S => (lstOf S n).bind fun xs => some (.int xs.length, S)
  | _, _ => none
def fAbs : FM
  | [.int i], S => some (.int (if i < 0 then -i else i), S)
  | _, _ => none
def fInt : FM
  | [.int i], S => some (.int i, S)
  | [.bl b], S => some (.int (if b then 1 else 0), S)
  | _, _ => none
def fTuple : FM
  | [.tup xs], S => some (.tup xs, S)
  | [.ref n], S => (lstOf S n).bind fun xs => some (.tup xs, S)
  | _, _ => none
def fList : FM
  | [.tup xs], S => some (.ref S.length, S ++ [.lst xs])
  | [.ref n], S => (lstOf S n).bind fun xs => some (.ref S.length, S ++ [.lst xs])
  | _, _ => none
section
variable {K : PySem.W.Frag}
theorem fn3_len : Fn3 K fLen (fun xs H Q => ∃ p ys, xs = [.ref p] ∧ (SqL K H p ys ∨ SqT K H p ys) ∧ Q (.int ys.length) H) := by
  intro ρ S H xs vs v S' Q sim r h p
  unfold fLen at h
  split at h
  · cases h
    obtain ⟨w, rfl, rw'⟩ := r.one
    cases rw' with
    | tup ha r2 => exact ⟨_, _, rfl, .inr (SqT.of ha), by rw [← r2.length]; exact p ρ H _ (Ext.refl ..) sim (.int _)⟩
  · obtain ⟨ys, h1, h⟩ := bnd h
    cases h
    obtain ⟨w, rfl, rw'⟩ := r.one
    obtain ⟨a, us, ha, sq, r2⟩ := sim.lstOf h1
    cases rw' with
    | ref hn =>
      rw [ha] at hn; cases hn
      exact ⟨_, _, rfl, .inl sq, by rw [← r2.length]; exact p ρ H _ (Ext.refl ..) sim (.int _)⟩
  · cases h
theorem fn3_abs : Fn3 K fAbs (fun xs H Q => ∃ i, xs = [.int i] ∧ Q (.int (if i < 0 then -i else i)) H) := by
  intro ρ S H xs vs v S' Q sim r h p
  unfold fAbs at h
  split at h
  · cases h
    obtain ⟨w, rfl, rw'⟩ := r.one
    cases rw'
    exact ⟨_, rfl, p ρ H _ (Ext.refl ..) sim (.int _)⟩
  · cases h
theorem fn3_tuple : Fn3 K fTuple (fun xs H Q => ∃ p ys, xs = [.ref p] ∧ ((SqL K H p ys ∧ ∀ l, H l = none → Q (.ref l) (upd H l (.tup ys))) ∨ (SqT K H p ys ∧ Q (.ref p) H))) := by
  intro ρ S H xs vs v S' Q sim r h p
  unfold fTuple at h
  split at h
  · cases h
    obtain ⟨w, rfl, rw'⟩ := r.one
    cases rw' with
    | tup ha r2 => exact ⟨_, _, rfl, .inr ⟨SqT.of ha, p ρ H _ (Ext.refl ..) sim (.tup ha r2)⟩⟩
  · obtain ⟨ys, h1, h⟩ := bnd h
    cases h
    obtain ⟨w, rfl, rw'⟩ := r.one
    obtain ⟨a, us, ha, sq, r2⟩ := sim.lstOf h1
    cases rw' with
    | ref hn =>
      rw [ha] at hn; cases hn
      exact ⟨_, _, rfl, .inl ⟨sq, new_tup sim r2 p⟩⟩
  · cases h
theorem fn3_list : Fn3 K fList (fun xs H Q => ∃ p ys, xs = [.ref p] ∧ (SqL K H p ys ∨ SqT K H p ys) ∧ ∀ l, H l = none → Q (.ref l) (upd H l (.lst ys))) := by
  intro ρ S H xs vs v S' Q sim r h p
  unfold fList at h
  split at h
  · cases h
    obtain ⟨w, rfl, rw'⟩ := r.one
    cases rw' with
    | tup ha r2 => exact ⟨_, _, rfl, .inr (SqT.of ha), new_lst sim r2 p⟩
  · obtain ⟨ys, h1, h⟩ := bnd h
    cases h
    obtain ⟨w, rfl, rw'⟩ := r.one
    obtain ⟨a, us, ha, sq, r2⟩ := sim.lstOf h1
    cases rw' with
    | ref hn =>
      rw [ha] at hn; cases hn
      exact ⟨_, _, rfl, .inl sq, new_lst sim r2 p⟩
  · cases h
end
def tyD (S : Sto) : D → Option String
  | .non => some "NoneType" | .bl _ => some "bool" | .int _ => some "int" | .str _ => some "str" | .tup _ => some "tuple"
  | .ref n => match S[n]? with
    | some (.lst _) => some "list"
    | some (.dct _) => some "dict"
    | _ => none
  | .fn _ => none
def isI (T U : String) : Bool := T == U || (T == "bool" && U == "int")
def fIsI (U : String) : D → Sto → Option (D × Sto) := fun x S => (tyD S x).bind fun T => some (.bl (isI T U), S)
def mAppend : D → List D → Sto → Option (D × Sto)
  | .ref n, [x], S => match S[n]? with
    | some (.lst xs) => if xs.length < sizeLine then some (.non, S.set n (.lst (xs ++ [x]))) else none
    | _ => none
  | _, _, _ => none
section
variable {K : PySem.W.Frag}
theorem mt3_append : Mt3 K mAppend rAppend := by
  intro ρ S H x x' xs vs v S' Q sim rx r h p
  unfold mAppend at h
  split at h
  · split at h
    · rename_i n y S ys e
      obtain ⟨hz, e2⟩ := ite_some h
      cases e2
      obtain ⟨w, rfl, rw'⟩ := r.one
      obtain ⟨a, us, ha, hH, r2⟩ := sim.lst e
      cases rx with
      | ref hn =>
        rw [ha] at hn; cases hn
        exact ⟨a, us, w, rfl, rfl, hH, by rw [← r2.length]; exact hz, p ρ _ _ (ext_upd ha hH) (sim.set ha e hH (r2.append (.cons rw' .nil))) .non⟩
    · cases h
  · cases h
end
def recvL : D → Sto → Option (List D)
  | .ref n, S => lstOf S n
  | _, _ => none
def eMethL (f : D → List D → Sto → Option (D × Sto)) (o : EM) (as : AM) : EM := fun l S => (o l S).bind fun p => (recvL p.1 p.2).bind fun _ => (as l p.2).bind fun q => f p.1 q.1 q.2
section
variable {X : Cx} {a o e : Expr} {es : List Expr} {mo : EM} {mA : AM} {name : Str} {apos cpos pos : Pos} {id : String} {f : D → List D → Sto → Option (D × Sto)} {r : V → List V → Hp → VK → Prop}
theorem recv_ok {K : PySem.W.Frag} {ρ : List Addr} {S : Sto} {H : Hp} {x : D} {x' : V} {xs : List D} (sim : Sim K ρ S H) (rx : RD ρ H x x') (h : recvL x S = some xs) : tyV K "list" x' H := by
  unfold recvL at h
  split at h
  · obtain ⟨a, us, ha, sq, r2⟩ := sim.lstOf h
    cases rx with
    | ref hn =>
      rw [ha] at hn; cases hn
      exact .inl ⟨rfl, us, sq⟩
  · cases h
theorem p3_bm (slot : Slot "list" name id) (hty : typeOf (.builtin id) = pure (.type "method_descriptor")) (hm : MtM X id r) (h3 : Mt3 X.K f r) (ho : PE3 X o mo) (ha : PA3 X (e :: es) mA)
    (hbase : attributeBase o name X.env (eval o X.env) = eval o X.env := by rfl)
    (hfew : ((backTo cpos (starEach (e :: es) X.env)).all (fun x => !x.1) && (backToKw cpos (keywordEach [] X.env)).all (fun x => x.1.isSome)
      && decide ((e :: es).length + ([] : List Keyword).length + (if ([] : List Keyword).isEmpty then 0 else 1) < 30)) = true := by rfl)
    (hline : (apos.endLine == cpos.line) = true := by rfl) (hs : starEach (e :: es) X.env = (false, eval e X.env) :: starEach es X.env := by rfl) (hplain : (backTo cpos (starEach es X.env)).any (·.1) = false := by rfl) :
    PE3 X (.Call (.Attribute o name apos) (e :: es) [] cpos) (eMethL f mo mA) :=
  PE.imp (pe_bm PySem.F.plainAttrs_list slot hty hm ho ha hbase hfew hline hs hplain) fun σ H Q ⟨ρ, l, S, v, S', sim, ro, hq, p⟩ => by
    obtain ⟨⟨x, S1⟩, h1, hq⟩ := bnd hq
    obtain ⟨xs, h2, hq⟩ := bnd hq
    obtain ⟨⟨ys, S2⟩, h4, hq⟩ := bnd hq
    exact ⟨ρ, l, S, x, S1, sim, ro, h1, fun ρ1 H1 x' e1 s1 r1 => ⟨recv_ok s1 r1 h2, ρ1, l, S1, ys, S2, s1, ro.mono e1, h4, fun ρ2 H2 vs e2 s2 r2 => h3 ρ2 S2 H2 x x' ys vs v S' Q s2 (r1.mono e2) r2 hq (p.ext (e1.trans e2))⟩⟩
theorem p3_append {m : EM} (ho : PE3 X o mo) (he : PE3 X e m)
    (hbase : attributeBase o "append" X.env (eval o X.env) = eval o X.env := by rfl)
    (hfew : ((backTo cpos (starEach [e] X.env)).all (fun x => !x.1) && (backToKw cpos (keywordEach [] X.env)).all (fun x => x.1.isSome)
      && decide ([e].length + ([] : List Keyword).length + (if ([] : List Keyword).isEmpty then 0 else 1) < 30)) = true := by rfl)
    (hline : (apos.endLine == cpos.line) = true := by rfl) (hs : starEach [e] X.env = (false, eval e X.env) :: starEach [] X.env := by rfl) :
    PE3 X (.Call (.Attribute o "append" apos) [e] [] cpos) (eMethL mAppend mo (aCons m aNil)) :=
  p3_bm PySem.F.slot_list_append PySem.F.type_list_append mt_append mt3_append ho (a3_cons he a3_nil hs) hbase hfew hline hs
end
section
variable {X : Cx} {a : Expr} {ma : EM} {pos p p2 : Pos}
theorem isI_kit {K : PySem.W.Frag} {T U : String} (hT : T ∈ ["NoneType", "bool", "int", "str", "tuple", "list", "dict"]) (hU : U ∈ ["bool", "int", "str", "tuple", "list"]) : PySem.W.kitOne K (.type T) (.type U) = some (isI T U) := by
  simp only [List.mem_cons, List.not_mem_nil, or_false] at hT hU
  rcases hT with rfl | rfl | rfl | rfl | rfl | rfl | rfl <;> rcases hU with rfl | rfl | rfl | rfl | rfl <;> rfl
theorem p3_isinst {U : String} {y : Str} (hg : Gl X "isinstance") (hm : X.mg "isinstance" = none) (hgy : Gl X y) (hmy : X.mg y = none) (hv : bootBuiltins y = some (.type U)) (hU : U ∈ ["bool", "int", "str", "tuple", "list"]) (ha : PE3 X a ma)
    (hn : y ≠ "__name__" := by decide) (hdb : (y == ("__debug__" : Str)) = false := by decide)
    (he : starEach (a :: [.Name y p2]) X.env = (false, eval a X.env) :: starEach [.Name y p2] X.env := by rfl) (he2 : starEach [.Name y p2] X.env = (false, eval (.Name y p2) X.env) :: starEach [] X.env := by rfl) (hpl : (backTo pos (starEach [.Name y p2] X.env)).any (·.1) = false := by rfl) :
    PE3 X (.Call (.Name "isinstance" p) [a, .Name y p2] [] pos) (eUn (fIsI U) ma) := by
  have hy : PE X (.Name y p2) (tC (.ty U)) := pe_bltn hgy hmy hv rfl hn hdb
  refine PE.imp (pe_callB (id := "isinstance") (r := fun xs H Q => ∃ x T, xs = [x, .ty U] ∧ TyOf X.K H x (.type T) ∧ T ∈ ["NoneType", "bool", "int", "str", "tuple", "list", "dict"] ∧ Q (.bl (isI T U)) H) ?_ hg hm (by decide +kernel) (pa_cons ha (pa_cons hy pa_nil he2) he) (by decide) (by decide) he hpl) ?_
  · intro pins s σ H xs us Q I r h
    obtain ⟨x, T, rfl, ty, hT, q⟩ := h
    obtain ⟨u1, u2, rfl, r1, r2⟩ := r.two
    cases r2
    exact isinst_ok I r1 ty (isI_kit hT hU) fun tk => ⟨.bl _, H, I.tok tk, rfl, q⟩
  · rintro σ H Q ⟨ρ, l, S, v, S', sim, ro, hq, p⟩
    obtain ⟨⟨x, S1⟩, h1, hq⟩ := bnd hq
    obtain ⟨T, h2, hq⟩ := bnd hq
    cases hq
    refine ⟨ρ, l, S, x, _, sim, ro, h1, fun ρ1 H1 x' e1 s1 r1 => ⟨x', T, rfl, ?_⟩⟩
    have fin := p ρ1 H1 _ e1 s1 (.bl (isI T U))
    cases r1 with
    | non => cases h2; exact ⟨.non, by decide, fin⟩
    | bl b => cases h2; exact ⟨.bl b, by decide, fin⟩
    | int b => cases h2; exact ⟨.int b, by decide, fin⟩
    | str b => cases h2; exact ⟨.str b, by decide, fin⟩
    | tup hh rr => cases h2; exact ⟨.tup hh, by decide, fin⟩
    | @ref n b hn =>
      unfold tyD at h2
      dsimp only at h2
      split at h2
      · rename_i ys ey
        cases h2
        obtain ⟨a', us, ha', hH, r2⟩ := s1.lst ey
        rw [ha'] at hn; cases hn
        exact ⟨.lst hH, by decide, fin⟩
      · rename_i kvs ey
        cases h2
        obtain ⟨us, hH, r2⟩ := s1.at' n b _ hn ey
        exact ⟨.dK hH, by decide, fin⟩
      · cases h2
    | fn b => cases h2
end
def sp3 (K : PySem.W.Frag) (n : Nat) (f : FM) : Sp := fun vs H Q _ => vs.length = n ∧ ∃ ρ ds S v S', Sim K ρ S H ∧ RDs ρ H ds vs ∧ f ds S = some (v, S') ∧ Pv K ρ H v S' Q
section
variable {X : Cx} {a : Expr} {es : List Expr} {mA : AM} {pos p : Pos} {x : Str} {k : Nat} {f : Addr} {fd : FuncData} {ps : List Str} {m : FM}
theorem p3_call {n : Nat} (F : FnOk X.prog X.w X.K X.mg X.base CX0 k f fd ps (sp3 X.K n m)) (hr : Room k X.A) (hg : Gl X x) (hm : X.mg x = some (.ref f)) (hk : PySem.W.keepIn X.K (.ref f) = true) (hb : Binds X.K fd ps [])
    (ha : PA3 X (a :: es) mA) (hl : ∀ l S v S', mA l S = some (v, S') → v.length = n) (hdb : (x == ("__debug__" : Str)) = false := by decide) (he : starEach (a :: es) X.env = (false, eval a X.env) :: starEach es X.env := by rfl) (hpl : (backTo pos (starEach es X.env)).any (·.1) = false := by rfl) :
    PE3 X (.Call (.Name x p) (a :: es) [] pos) (eCall m mA) :=
  PE.imp (pe_call F hr hg hm hk hb .nil pass0 ha hdb he hpl) fun σ H Q ⟨ρ, l, S, v, S', sim, ro, hq, p⟩ => by
    obtain ⟨⟨xs, S1⟩, h1, hq⟩ := bnd hq
    exact ⟨ρ, l, S, xs, S1, sim, ro, h1, fun ρ1 H1 vs e1 s1 r1 => ⟨by rw [List.append_nil, ← r1.length]; exact hl _ _ _ _ h1, ρ1, xs, S1, v, S', s1, by rw [List.append_nil]; exact r1, hq, p.ext e1⟩⟩
theorem len_nil : ∀ l S v S', aNil l S = some (v, S') → v.length = 0 := fun l S v S' h => by cases h; rfl
theorem len_cons {n : Nat} {m : EM} {mA : AM} (h : ∀ l S v S', mA l S = some (v, S') → v.length = n) : ∀ l S v S', aCons m mA l S = some (v, S') → v.length = n + 1 := fun l S v S' q => by
  obtain ⟨⟨x, S1⟩, h1, q⟩ := bnd q
  obtain ⟨⟨y, S2⟩, h2, q⟩ := bnd q
  cases q
  rw [List.length_cons, h _ _ _ _ h2]
end
end L3
set_option Elab.async false
set_option maxHeartbeats 4000000
namespace L3
open PySem PySem.Spec PyProof.Rows L2
def sNext : SM := fun l S => some (.nx, l, S)
def sBreak : SM := fun l S => some (.bk, l, S)
def sCont : SM := fun l S => some (.ct, l, S)
def sSeq (a b : SM) : SM := fun l S => (a l S).bind fun p => match p.1 with
  | .nx => b p.2.1 p.2.2
  | f => some (f, p.2)
def sDrop (e : EM) : SM := fun l S => (e l S).bind fun p => some (.nx, l, p.2)
def sRet (e : EM) : SM := fun l S => (e l S).bind fun p => some (.rt p.1, l, p.2)
def sIf (c : TM) (a b : SM) : SM := fun l S => (c l S).bind fun p => if p.1 = true then a l p.2 else b l p.2
def sAsg (e : EM) (g : GM) : SM := fun l S => (e l S).bind fun p => (g p.1 l p.2).bind fun q => some (.nx, q)
def gName3 (i : Nat) : GM := fun d l S => some (l.set i (some d), S)
def gNil3 : GsM
  | [], l, S => some (l, S)
  | _, _, _ => none
def gCons3 (g : GM) (r : GsM) : GsM
  | x :: xs, l, S => (g x l S).bind fun p => r xs p.1 p.2
  | _, _, _ => none
def gTup3 (n : Nat) (g : GsM) : GM
  | .tup xs, l, S => if xs.length = n then g xs l S else none
  | _, _, _ => none
def setIx : D → D → D → Sto → Option Sto
  | .ref n, .int i, v, S => match S[n]? with
    | some (.lst xs) => (ixN xs.length i).bind fun j => some (S.set n (.lst (xs.set j v)))
    | _ => none
  | _, _, _, _ => none
def gSub3 (o i : EM) : GM := fun v l S => (o l S).bind fun p => (i l p.2).bind fun q => (setIx p.1 q.1 v q.2).bind fun S' => some (l, S')
section
variable {X : Cx} {st : Stmt} {rest : List Stmt} {m n : SM} {e c : Expr} {me : EM} {pos : Pos}
theorem ss3_nil : PSs3 X [] sNext := PSs.imp pss_nil fun E σ H ⟨ρ, l, S, f, l', S', sim, ro, hm, p⟩ => by
  cases hm
  exact p ρ H σ (Ext.refl ..) sim ro
theorem ss3_cons (h1 : PS3 X st m) (h2 : PSs3 X rest n) : PSs3 X (st :: rest) (sSeq m n) := PSs.imp (pss_cons h1 h2) fun E σ H ⟨ρ, l, S, f, l', S', sim, ro, hm, p⟩ => by
  obtain ⟨⟨g, l1, S1⟩, q1, hm⟩ := bnd hm
  refine ⟨ρ, l, S, g, l1, S1, sim, ro, q1, fun ρ1 H1 σ1 e1 s1 r1 => ?_⟩
  cases g with
  | nx => exact ⟨ρ1, l1, S1, f, l', S', s1, r1, hm, fun ρ2 H2 σ2 e2 s2 r2 => p ρ2 H2 σ2 (e1.trans e2) s2 r2⟩
  | bk => cases hm; exact p ρ1 H1 σ1 e1 s1 r1
  | ct => cases hm; exact p ρ1 H1 σ1 e1 s1 r1
  | rt d => cases hm; exact p ρ1 H1 σ1 e1 s1 r1
theorem ss3_one (h1 : PS3 X st m) : PSs3 X [st] m := pss_one h1
theorem s3_expr (he : PE3 X e me) (hs : swapsWith e none pos.line X.env = pure false := by rfl) : PS3 X (.Expr e pos) (sDrop me) := PS.imp (ps_expr he hs) fun E σ H ⟨ρ, l, S, f, l', S', sim, ro, hm, p⟩ => by
  obtain ⟨⟨x, S1⟩, q1, hm⟩ := bnd hm
  cases hm
  exact ⟨ρ, l, S, x, _, sim, ro, q1, fun ρ1 H1 x' e1 s1 _ => p ρ1 H1 σ e1 s1 (ro.mono e1)⟩
theorem s3_ret (he : PE3 X e me) : PS3 X (.Return (some e) pos) (sRet me) := PS.imp (ps_ret he) fun E σ H ⟨ρ, l, S, f, l', S', sim, ro, hm, p⟩ => by
  obtain ⟨⟨x, S1⟩, q1, hm⟩ := bnd hm
  cases hm
  exact ⟨ρ, l, S, x, _, sim, ro, q1, fun ρ1 H1 x' e1 s1 r1 => p ρ1 H1 σ e1 s1 (ro.mono e1) x' r1⟩
theorem s3_if {c : Expr} {a b : List Stmt} {mc : TM} (hc : PT3 X c mc) (ha : PSs3 X a m) (hb : PSs3 X b n) : PS3 X (.If c a b pos) (sIf mc m n) := PS.imp (ps_if hc ha hb) fun E σ H ⟨ρ, l, S, f, l', S', sim, ro, hm, p⟩ => by
  obtain ⟨⟨x, S1⟩, q1, hm⟩ := bnd hm
  refine ⟨ρ, l, S, x, S1, sim, ro, q1, fun ρ1 H1 e1 s1 => ?_⟩
  cases x with
  | true => exact iteT ⟨ρ1, l, S1, f, l', S', s1, ro.mono e1, hm, fun ρ2 H2 σ2 e2 s2 r2 => p ρ2 H2 σ2 (e1.trans e2) s2 r2⟩
  | false => exact iteF ⟨ρ1, l, S1, f, l', S', s1, ro.mono e1, hm, fun ρ2 H2 σ2 e2 s2 r2 => p ρ2 H2 σ2 (e1.trans e2) s2 r2⟩
variable {tgt o i : Expr} {g : GM} {gs : GsM} {ts' : List Expr} {mo mi : EM}
theorem g3_name (j : Nat) {x : Str} (hN : X.N.Nodup) (hi : X.N[j]? = some x := by rfl) (hx : Loc X.env.scope x := by first | exact Or.inl rfl | exact Or.inr rfl) (hf : X.fn x = true ∨ X.env.scope.names.lookup x = some .local := by first | exact .inl rfl | exact .inr rfl | assumption) : PG3 X (.Name x pos) (gName3 j) :=
  PG.imp (pg_name hN hi hx hf) fun v σ H Q ⟨ρ, l, S, d, l', S', sim, ro, rd, hm, p⟩ => by
    cases hm
    exact p ρ H _ (Ext.refl ..) sim (ro.set j rd)
theorem gs3_nil : PGs3 X [] gNil3 := PGs.imp pgs_nil fun v σ H Q ⟨ρ, l, S, d, l', S', sim, ro, rd, hm, p⟩ => by
  cases rd with
  | nil => cases hm; exact ⟨rfl, p ρ H _ (Ext.refl ..) sim ro⟩
  | cons _ _ => cases hm
theorem gs3_cons (h1 : PG3 X tgt g) (h2 : PGs3 X ts' gs) (hs : (assignEach (tgt :: ts') X.env).map (·.2) = assign tgt X.env :: (assignEach ts' X.env).map (·.2) := by rfl) : PGs3 X (tgt :: ts') (gCons3 g gs) := PGs.imp (pgs_cons h1 h2 hs) fun v σ H Q ⟨ρ, l, S, d, l', S', sim, ro, rd, hm, p⟩ => by
  cases rd with
  | nil => cases hm
  | @cons x v' xs vs r1 r2 =>
    obtain ⟨⟨l1, S1⟩, q1, hm⟩ := bnd hm
    exact ⟨v', vs, rfl, ρ, l, S, x, l1, S1, sim, ro, r1, q1, fun ρ1 H1 σ1 e1 s1 ro1 => ⟨ρ1, l1, S1, xs, l', S', s1, ro1, r2.mono e1, hm, fun ρ2 H2 σ2 e2 s2 ro2 => p ρ2 H2 σ2 (e1.trans e2) s2 ro2⟩⟩
theorem g3_tup {es : List Expr} {k n : Nat} (hc : X.calm = true) (h : PGs3 X es gs) (hn : (assignEach es X.env).length = n := by rfl) (hst : (assignEach es X.env).findIdx? (·.1) = none := by rfl) : PG3 X (.Tuple es k pos) (gTup3 n gs) :=
  PG.imp (pg_tup hc h hn hst) fun v σ H Q ⟨ρ, l, S, d, l', S', sim, ro, rd, hm, p⟩ => by
    cases rd with
    | @tup xs a vs ha r =>
      have hm : (if xs.length = n then gs xs l S else none) = some (l', S') := hm
      by_cases hl : xs.length = n
      · rw [if_pos hl] at hm
        exact ⟨a, vs, rfl, SqT.of ha, by rw [← r.length]; exact hl, ρ, l, S, xs, l', S', sim, ro, r, hm, p⟩
      · rw [if_neg hl] at hm; cases hm
    | _ => cases hm
theorem set3_ok {K : PySem.W.Frag} {ρ : List Addr} {S S' : Sto} {H : Hp} {x y z : D} {x' y' z' : V} {Q : Hp → Prop} (sim : Sim K ρ S H) (rx : RD ρ H x x') (ry : RD ρ H y y') (rz : RD ρ H z z') (h : setIx x y z S = some S') (q : ∀ H', Ext ρ H ρ H' → Sim K ρ S' H' → Q H') : rSetL x' y' z' H Q := by
  unfold setIx at h
  split at h
  · split at h
    · rename_i hx
      obtain ⟨j, hj, h⟩ := bnd h
      cases h
      cases ry
      obtain ⟨a, us, ha', hH, r3⟩ := sim.lst hx
      cases rx with
      | ref hn =>
        rw [ha'] at hn; cases hn
        exact ⟨a, us, _, j, rfl, rfl, hH, by rw [← r3.length]; exact hj, q _ (ext_upd ha' hH) (sim.set ha' hx hH (r3.set rz j))⟩
    · cases h
  · cases h
theorem g3_sub (ho : PE3 X o mo) (hi : PE3 X i mi)
    (ha : ∀ v, assign (.Subscript o i pos) X.env v = (do
      let ov ← holding [v] (eval o X.env)
      let iv ← holding [v, ov] (eval i X.env)
      standAt pos
      holding [v, ov, iv] (setItem ov iv v)
      release [v, ov, iv] []) := by intro _; rfl) : PG3 X (.Subscript o i pos) (gSub3 mo mi) :=
  PG.imp (pg_sub ho hi set_list ha) fun v σ H Q ⟨ρ, l, S, d, l', S', sim, ro, rd, hm, p⟩ => by
    obtain ⟨⟨x, S1⟩, q1, hm⟩ := bnd hm
    obtain ⟨⟨y, S2⟩, q2, hm⟩ := bnd hm
    obtain ⟨S3, q3, hm⟩ := bnd hm
    cases hm
    exact ⟨ρ, l, S, x, S1, sim, ro, q1, fun ρ1 H1 x' e1 s1 r1 => ⟨ρ1, l, S1, y, S2, s1, ro.mono e1, q2, fun ρ2 H2 y' e2 s2 r2 => set3_ok s2 (r1.mono e2) r2 (rd.mono (e1.trans e2)) q3 fun H3 e3 s3 => p ρ2 H3 σ (e1.trans (e2.trans e3)) s3 (ro.mono (e1.trans (e2.trans e3)))⟩⟩
theorem s3_asg (he : PE3 X e me) (hg : PG3 X tgt g) (hs : swapsWithSole [tgt] e pos.line X.env = pure false := by rfl) (hw : swappedStores [tgt] e X.env = pure none := by rfl)
    (h1 : (assignEach [tgt] X.env).map (·.2) = [assign tgt X.env] := by rfl) : PS3 X (.Assign [tgt] e pos) (sAsg me g) := PS.imp (ps_asg he hg hs hw h1) fun E σ H ⟨ρ, l, S, f, l', S', sim, ro, hm, p⟩ => by
  obtain ⟨⟨x, S1⟩, q1, hm⟩ := bnd hm
  obtain ⟨⟨l2, S2⟩, q2, hm⟩ := bnd hm
  cases hm
  exact ⟨ρ, l, S, x, S1, sim, ro, q1, fun ρ1 H1 x' e1 s1 r1 => ⟨ρ1, l, S1, x, _, _, s1, ro.mono e1, r1, q2, fun ρ2 H2 σ2 e2 s2 r2 => p ρ2 H2 σ2 (e1.trans e2) s2 r2⟩⟩
theorem s3_set (j : Nat) {x : Str} {pos' : Pos} (hN : X.N.Nodup) (he : PE3 X e me) (hi : X.N[j]? = some x := by rfl) (hx : Loc X.env.scope x := by first | exact Or.inl rfl | exact Or.inr rfl) (hs : swapsWith e (some (.Name x pos')) pos.line X.env = pure false := by rfl) (hf : X.fn x = true ∨ X.env.scope.names.lookup x = some .local := by first | exact .inl rfl | exact .inr rfl | assumption) :
    PS3 X (.Assign [.Name x pos'] e pos) (sAsg me (gName3 j)) := PS.imp (ps_set hN hi hx he hs hf) fun E σ H ⟨ρ, l, S, f, l', S', sim, ro, hm, p⟩ => by
  obtain ⟨⟨x, S1⟩, q1, hm⟩ := bnd hm
  cases hm
  exact ⟨ρ, l, S, x, _, sim, ro, q1, fun ρ1 H1 x' e1 s1 r1 => p ρ1 H1 _ e1 s1 ((ro.mono e1).set j r1)⟩
end
def forX (g : GM) (b : SM) : List D → SM
  | [], l, S => some (.nx, l, S)
  | x :: xs, l, S => (g x l S).bind fun p => (b p.1 p.2).bind fun q => match q.1 with
    | .nx => forX g b xs q.2.1 q.2.2
    | .ct => forX g b xs q.2.1 q.2.2
    | .bk => some (.nx, q.2)
    | .rt d => some (.rt d, q.2)
def forL (g : GM) (b : SM) (n : Nat) : Nat → Nat → SM
  | 0, _, _, _ => none
  | k + 1, i, l, S => (lstOf S n).bind fun xs => match xs[i]? with
    | none => some (.nx, l, S)
    | some x => (g x l S).bind fun p => (b p.1 p.2).bind fun q => match q.1 with
      | .nx => forL g b n k (i + 1) q.2.1 q.2.2
      | .ct => forL g b n k (i + 1) q.2.1 q.2.2
      | .bk => some (.nx, q.2)
      | .rt d => some (.rt d, q.2)
def sFor (e : EM) (g : GM) (b : SM) : SM := fun l S => (e l S).bind fun p => match p.1 with
  | .tup xs => forX g b xs l p.2
  | .ref n => (lstOf p.2 n).bind fun xs => forL g b n (xs.length + 1) 0 l p.2
  | _ => none
def rngD (lo : Int) (n : Nat) : List D := (List.range n).map fun (i : Nat) => .int (lo + i)
def rng1 (as : AM) : Lo → Sto → Option ((Int × Nat) × Sto) := fun l S => (as l S).bind fun p => match p.1 with
  | [.int j] => if -(2 ^ 62) ≤ j ∧ j < 2 ^ 62 then some ((0, j.toNat), p.2) else none
  | _ => none
def sForR (r : Lo → Sto → Option ((Int × Nat) × Sto)) (g : GM) (b : SM) : SM := fun l S => (r l S).bind fun p => forX g b (rngD p.1.1 p.1.2) l p.2
section
variable {K : PySem.W.Frag} {g : GM} {b : SM} {E : Ends}
theorem turn3 {next : SM} {x : D} {v : V} {ρ : List Addr} {l : Lo} {S : Sto} {H : Hp} {σ : St} {f : Fl} {l' : Lo} {S' : Sto} (sim : Sim K ρ S H) (ro : RO ρ H l σ) (rx : RD ρ H x v)
    (hm : ((g x l S).bind fun p => (b p.1 p.2).bind fun q => match q.1 with
      | .nx => next q.2.1 q.2.2
      | .ct => next q.2.1 q.2.2
      | .bk => some (.nx, q.2)
      | .rt d => some (.rt d, q.2)) = some (f, l', S')) (p : ∀ ρ' H' σ', Ext ρ H ρ' H' → Sim K ρ' S' H' → RO ρ' H' l' σ' → ends ρ' H' E σ' f)
    {N : St → Hp → Prop} (hN : ∀ ρ1 H1 σ1 l1 S1, Ext ρ H ρ1 H1 → Sim K ρ1 S1 H1 → RO ρ1 H1 l1 σ1 → next l1 S1 = some (f, l', S') → N σ1 H1) :
    tg K g v σ H fun σ2 H2 => ts K b { E with nx := N, ct := N, bk := E.nx } σ2 H2 := by
  obtain ⟨⟨l1, S1⟩, q1, hm⟩ := bnd hm
  obtain ⟨⟨fl, l2, S2⟩, q2, hm⟩ := bnd hm
  refine ⟨ρ, l, S, x, l1, S1, sim, ro, rx, q1, fun ρ1 H1 σ1 e1 s1 r1 => ⟨ρ1, l1, S1, fl, l2, S2, s1, r1, q2, fun ρ2 H2 σ2 e2 s2 r2 => ?_⟩⟩
  cases fl with
  | nx => exact hN ρ2 H2 σ2 l2 S2 (e1.trans e2) s2 r2 hm
  | ct => exact hN ρ2 H2 σ2 l2 S2 (e1.trans e2) s2 r2 hm
  | bk => cases hm; exact p ρ2 H2 σ2 (e1.trans e2) s2 r2
  | rt d => cases hm; exact p ρ2 H2 σ2 (e1.trans e2) s2 r2
end
section
variable {X : Cx} {tgt iter : Expr} {body : List Stmt} {g : GM} {b : SM} {m : EM} {pos : Pos}
theorem loopX {K : PySem.W.Frag} {J : It} {vs : List V} {xs : List D} {ρ : List Addr} {l : Lo} {S : Sto} {H : Hp} {σ : St} {f : Fl} {l' : Lo} {S' : Sto} {E : Ends} (R : List Addr → Hp → Prop) (hR : ∀ ρ H ρ' H', Ext ρ H ρ' H' → R ρ H → R ρ' H')
    (hgo : ∀ (i : Nat) ρ H v, R ρ H → vs[i]? = some v → J.go i H) (hy : ∀ (i : Nat) ρ H v H', R ρ H → i < vs.length → J.yld i H v H' → H' = H ∧ vs[i]? = some v) (hst : ∀ ρ H, R ρ H → J.stop vs.length H)
    (hv : ∀ ρ H, R ρ H → RDs ρ H xs vs) (r0 : R ρ H)
    (sim : Sim K ρ S H) (ro : RO ρ H l σ) (hm : forX g b xs l S = some (f, l', S')) (p : ∀ ρ' H' σ', Ext ρ H ρ' H' → Sim K ρ' S' H' → RO ρ' H' l' σ' → ends ρ' H' E σ' f) :
    ∃ W : Nat → Nat → St → Hp → Prop, (∃ m, W 0 m σ H) ∧ ∀ i m σ H, W i m σ H →
      (J.stop i H ∧ E.nx σ H) ∨ (J.go i H ∧ ∃ N : St → Hp → Prop, (∀ σ' H', N σ' H' → ∃ m', m' < m ∧ W (i + 1) m' σ' H') ∧ ∀ x H', J.yld i H x H' → tg K g x σ H' fun σ2 H2 => ts K b { E with nx := N, ct := N, bk := E.nx } σ2 H2) := by
  refine ⟨fun i m σ1 H1 => m = xs.length - i ∧ i ≤ xs.length ∧ ∃ ρ1 l1 S1, Ext ρ H ρ1 H1 ∧ Sim K ρ1 S1 H1 ∧ RO ρ1 H1 l1 σ1 ∧ forX g b (xs.drop i) l1 S1 = some (f, l', S'), ⟨xs.length, by simp, Nat.zero_le _, ρ, l, S, Ext.refl .., sim, ro, hm⟩, ?_⟩
  rintro i m σ1 H1 ⟨rfl, hi, ρ1, l1, S1, e1, s1, ro1, hm1⟩
  have R1 := hR _ _ _ _ e1 r0
  have hlen := (hv _ _ r0).length
  by_cases hlt : i < xs.length
  · have hx : xs[i]? = some xs[i] := List.getElem?_eq_getElem hlt
    obtain ⟨v, hvi, rv⟩ := (hv _ _ R1).get hx
    rw [List.drop_eq_getElem_cons hlt] at hm1
    refine .inr ⟨hgo i ρ1 H1 v R1 hvi, _, fun σ' H' h => h, fun y H' hyl => ?_⟩
    obtain ⟨e, hy2⟩ := hy i ρ1 H1 y H' R1 (by omega) hyl
    subst e
    rw [hvi] at hy2; cases hy2
    refine turn3 (next := forX g b (xs.drop (i + 1))) s1 ro1 rv hm1 (fun ρ' H' σ' e' => p ρ' H' σ' (e1.trans e')) fun ρ2 H2 σ2 l2 S2 e2 s2 ro2 hm2 => ?_
    exact ⟨xs.length - (i + 1), by omega, rfl, hlt, ρ2, l2, S2, e1.trans e2, s2, ro2, hm2⟩
  · have hil : i = xs.length := by omega
    subst hil
    rw [List.drop_length] at hm1
    cases hm1
    exact .inl ⟨by rw [hlen]; exact hst _ _ R1, p ρ1 H1 σ1 e1 s1 ro1⟩
theorem rng_rd (ρ : List Addr) (H : Hp) (lo : Int) (n : Nat) : RDs ρ H (rngD lo n) ((List.range n).map fun (i : Nat) => V.int (lo + i)) := by
  unfold rngD
  generalize List.range n = l
  induction l with
  | nil => exact .nil
  | cons a r ih => exact .cons (.int _) ih
theorem itr_get {lo : Int} {n i : Nat} {v : V} (h : i < n) (hv : v = .int (lo + i)) : ((List.range n).map fun (i : Nat) => V.int (lo + i))[i]? = some v := by
  rw [List.getElem?_map, List.getElem?_range h, hv]; rfl
theorem PI.or {wi wj : TI} (h : PI X tgt iter wi) (h' : PI X tgt iter wj) : PI X tgt iter (fun σ H R => wi σ H R ∨ wj σ H R) := by
  intro pins s σ H R I q
  rcases q with q | q
  · exact h pins s σ H R I q
  · exact h' pins s σ H R I q
theorem loopL {K : PySem.W.Frag} {n : Nat} {a : Addr} {ρ : List Addr} {l : Lo} {S : Sto} {H : Hp} {σ : St} {f : Fl} {l' : Lo} {S' : Sto} {E : Ends} {k : Nat} (ha : ρ[n]? = some a)
    (sim : Sim K ρ S H) (ro : RO ρ H l σ) (hm : forL g b n k 0 l S = some (f, l', S')) (p : ∀ ρ' H' σ', Ext ρ H ρ' H' → Sim K ρ' S' H' → RO ρ' H' l' σ' → ends ρ' H' E σ' f) :
    ∃ W : Nat → Nat → St → Hp → Prop, (∃ m, W 0 m σ H) ∧ ∀ i m σ H, W i m σ H →
      ((Itl K a).stop i H ∧ E.nx σ H) ∨ ((Itl K a).go i H ∧ ∃ N : St → Hp → Prop, (∀ σ' H', N σ' H' → ∃ m', m' < m ∧ W (i + 1) m' σ' H') ∧ ∀ x H', (Itl K a).yld i H x H' → tg K g x σ H' fun σ2 H2 => ts K b { E with nx := N, ct := N, bk := E.nx } σ2 H2) := by
  refine ⟨fun i m σ1 H1 => ∃ ρ1 l1 S1, Ext ρ H ρ1 H1 ∧ Sim K ρ1 S1 H1 ∧ RO ρ1 H1 l1 σ1 ∧ forL g b n m i l1 S1 = some (f, l', S'), ⟨k, ρ, l, S, Ext.refl .., sim, ro, hm⟩, ?_⟩
  rintro i m σ1 H1 ⟨ρ1, l1, S1, e1, s1, ro1, hm1⟩
  cases m with
  | zero => cases hm1
  | succ m =>
    have ha1 := e1.pre n a ha
    unfold forL at hm1
    obtain ⟨xs, hx, hm1⟩ := bnd hm1
    obtain ⟨a', vs, ha', sq, rv⟩ := s1.lstOf hx
    rw [ha1] at ha'; cases ha'
    cases hi : xs[i]? with
    | none =>
      rw [hi] at hm1
      cases hm1
      have hl : xs.length ≤ i := List.getElem?_eq_none_iff.mp hi
      exact .inl ⟨⟨vs, sq, by rw [← rv.length]; exact hl⟩, p ρ1 H1 σ1 e1 s1 ro1⟩
    | some x =>
      rw [hi] at hm1
      obtain ⟨v, hvi, r⟩ := rv.get hi
      refine .inr ⟨⟨vs, v, sq, hvi⟩, _, fun σ' H' h => h, fun y H' hyl => ?_⟩
      obtain ⟨e, hy2⟩ := hyl
      subst e
      have hy3 := hy2 vs sq
      rw [hvi] at hy3; cases hy3
      refine turn3 (next := forL g b n m (i + 1)) s1 ro1 r hm1 (fun ρ' H' σ' e' => p ρ' H' σ' (e1.trans e')) fun ρ2 H2 σ2 l2 S2 e2 s2 ro2 hm2 => ?_
      exact ⟨m, Nat.lt_succ_self m, ρ2, l2, S2, e1.trans e2, s2, ro2, hm2⟩
theorem s3_for (hp : PassesOwn (model X.prog X.w) X.A X.env X.xe) (hc : X.calm = true) (hi : PE3 X iter m) (hg : PG3 X tgt g) (hb : PSs3 X body b)
    (hs : ∀ x, foldedSetIterable iter X.env x = pure x := by intro _; rfl) : PS3 X (.For tgt iter body [] pos) (sFor m g b) :=
  PS.imp (ps_for hp hc (PI.or (pi_list hi) (pi_tup hi)) hg hb hs) fun E σ H ⟨ρ, l, S, f, l', S', sim, ro, hm, p⟩ => by
    obtain ⟨⟨x, S1⟩, q1, hm⟩ := bnd hm
    dsimp only at hm
    split at hm
    · rename_i xs
      refine .inr ⟨ρ, l, S, .tup xs, S1, sim, ro, q1, fun ρ1 H1 x' e1 s1 r1 => ?_⟩
      cases r1 with
      | @tup xs a vs ha r =>
        refine ⟨a, rfl, ⟨vs, SqT.of ha⟩, loopX (vs := vs) (fun ρ' H' => H' a = some (.tup vs) ∧ RDs ρ' H' xs vs) (fun ρ H ρ' H' e ⟨h1, h2⟩ => ⟨e.tup _ _ h1, h2.mono e⟩)
          (fun i ρ H v ⟨h1, _⟩ hv => ⟨vs, v, SqT.of h1, hv⟩) (fun i ρ H v H' ⟨h1, _⟩ _ hy => ⟨hy.1, hy.2 vs (SqT.of h1)⟩) (fun ρ H ⟨h1, _⟩ => ⟨vs, SqT.of h1, Nat.le_refl _⟩) (fun ρ H h => h.2) ⟨ha, r⟩ s1 (ro.mono e1) hm fun ρ' H' σ' e' => p ρ' H' σ' (e1.trans e')⟩
    · rename_i n
      obtain ⟨xs, hx, hm⟩ := bnd hm
      refine .inl ⟨ρ, l, S, .ref n, S1, sim, ro, q1, fun ρ1 H1 x' e1 s1 r1 => ?_⟩
      obtain ⟨a, vs, ha, sq, rv⟩ := s1.lstOf hx
      cases r1 with
      | ref hn =>
        rw [ha] at hn; cases hn
        exact ⟨a, rfl, ⟨vs, sq⟩, loopL ha s1 (ro.mono e1) hm (fun ρ' H' σ' e' => p ρ' H' σ' (e1.trans e'))⟩
    · cases hm
theorem s3_forR1 {a : Expr} {mA : AM} {p0 pos' : Pos} (hp : PassesOwn (model X.prog X.w) X.A X.env X.xe) (hc : X.calm = true) (hgl : Gl X "range") (hmg : X.mg "range" = none) (ha : PA3 X [a] mA) (hg : PG3 X tgt g) (hb : PSs3 X body b)
    (hs : ∀ x, foldedSetIterable (.Call (.Name "range" p0) [a] [] pos') X.env x = pure x := by intro _; rfl) (hst : starEach [a] X.env = [(false, eval a X.env)] := by rfl) : PS3 X (.For tgt (.Call (.Name "range" p0) [a] [] pos') body [] pos) (sForR (rng1 mA) g b) :=
  PS.imp (ps_for hp hc (pi_range1 hgl hmg ha hst) hg hb hs) fun E σ H ⟨ρ, l, S, f, l', S', sim, ro, hm, p⟩ => by
    obtain ⟨⟨⟨lo, n⟩, S1⟩, q1, hm⟩ := bnd hm
    obtain ⟨⟨xs, S2⟩, q2, q1⟩ := bnd q1
    dsimp only at q1 hm
    split at q1
    · rename_i j
      obtain ⟨hz, e⟩ := ite_some q1
      cases e
      refine ⟨ρ, l, S, [.int j], S1, sim, ro, q2, fun ρ1 H1 vs e1 s1 r1 => ?_⟩
      obtain ⟨v, rfl, rv⟩ := r1.one
      cases rv
      refine ⟨j, rfl, hz.1, hz.2, loopX (vs := (List.range j.toNat).map fun (i : Nat) => V.int (0 + i)) (fun _ _ => True) (fun _ _ _ _ _ h => h) (fun i ρ H v _ hv => ?_) (fun i ρ H v H' _ hl hy => ⟨hy.1, ?_⟩) (fun ρ H _ => ?_) (fun ρ H _ => rng_rd ρ H 0 j.toNat) trivial s1 (ro.mono e1) hm fun ρ' H' σ' e' => p ρ' H' σ' (e1.trans e')⟩
      · have := (List.getElem?_eq_some_iff.mp hv).1
        simp at this
        show i < j.toNat
        omega
      · obtain ⟨_, hy⟩ := hy
        exact itr_get (by simpa using hl) hy
      · show j.toNat ≤ _
        simp
    · cases q1
end
def runB (n : Nat) (b : SM) : FM := fun ds S => (b (ds.map some ++ List.replicate (n - ds.length) none) S).bind fun p => match p.1 with
  | .rt d => some (d, p.2.2)
  | .nx => some (.non, p.2.2)
  | _ => none
theorem RDs.locals {ρ : List Addr} {H : Hp} {ds : List D} {vs : List V} (r : RDs ρ H ds vs) (N : List Str) : RO ρ H (ds.map some ++ List.replicate (N.length - ds.length) none) (L2.start N vs) := by
  unfold L2.start
  rw [← r.length]
  refine ⟨by simp [r.length], fun i d h => ?_⟩
  by_cases hl : i < ds.length
  · rw [List.getElem?_append_left (by simpa using hl), List.getElem?_map] at h
    cases e : ds[i]? with
    | none => rw [e] at h; cases h
    | some d' =>
      rw [e] at h
      have h' : some (some d') = some (some d) := h
      cases h'
      obtain ⟨v, h1, h2⟩ := r.get e
      exact ⟨v, by rw [List.getElem?_append_left (by rw [List.length_map, ← r.length]; exact hl), List.getElem?_map, h1]; rfl, h2⟩
  · rw [List.getElem?_append_right (by simpa using hl), List.getElem?_replicate] at h
    split at h
    · cases h
    · cases h
theorem fun3 {P : Program} {w : World} {K : PySem.W.Frag} {mg : Str → Option Value} {base : Heap} {x qual : Str} {st : Stmt} {f : Addr} {fd : FuncData} {N ps : List Str} {k n : Nat} {b : SM} (F : Fun K x qual st f fd) (S : FnScope N ps (defScope st)) (hn : ps.length = n)
    (hbody : ∀ (cdv : Value), PySem.W.codeIn K cdv qual = true → ∀ (A : Around) (outer : List Env) (s : Shared) (H : Hp) (E : XK), Room k (A.deeper (envOfC qual (defScope st) s.heap.objs.size f cdv)) →
      PSs3 (cxOf CX0 P w K mg base N qual (defScope st) f cdv A outer s H E).nox (defBody st) b) : FnOk P w K mg base CX0 (k + 1) f fd ps (sp3 K n (runB N.length b)) := by
  obtain ⟨oc, od, kV, doc, pm, an, cdv, ct, osl, rfl, lk, hcd⟩ := F.ex
  refine fn_of lk hcd S (fun vs H Q E h => by rw [h.1, hn]) fun A outer s H vs Q E hr h => ?_
  obtain ⟨hl, ρ, ds, S0, v, S', sim, rd, hm, p⟩ := h
  refine ⟨_, PSs.nox (hbody cdv hcd A outer s H E hr), ?_⟩
  obtain ⟨⟨fl, l', S1⟩, q, hm⟩ := bnd hm
  refine ⟨ρ, _, S0, fl, l', S1, sim, rd.locals N, q, fun ρ' H' σ' e' s' r' => ?_⟩
  cases fl with
  | nx => cases hm; exact p ρ' H' _ e' s' .non
  | rt d => cases hm; exact fun v' rv => p ρ' H' v' e' s' rv
  | bk => cases hm
  | ct => cases hm
end L3
set_option Elab.async false
set_option maxHeartbeats 4000000
namespace L3
open PySem PySem.Spec PyProof.Rows L2
def clOf (env : Env) : List (Str × NameKind) → List (Str × Addr) → List (Str × Addr)
  | [], cs => cs
  | (n, k) :: r, cs => if k == .free then (match env.cells.lookup n with | some c => clOf env r ((n, c) :: cs) | none => clOf env r cs) else clOf env r cs
theorem closure_eq (env : Env) : ∀ (names : List (Str × NameKind)) (cs : List (Str × Addr)), (∀ x ∈ names, x.2 = .free → ∃ c, env.cells.lookup x.1 = some c) →
    (forIn names cs (fun x r => if (x.2 == NameKind.free) = true then do let c ← cellOf env x.1; pure (ForInStep.yield ((x.1, c) :: r)) else pure (ForInStep.yield r)) : Sem (List (Str × Addr))) = pure (clOf env names cs)
  | [], cs, _ => rfl
  | (n, k) :: r, cs, h => by
    have ih := fun cs => closure_eq env r cs fun x hx => h x (List.mem_cons_of_mem _ hx)
    rw [List.forIn_cons]
    by_cases hk : k = .free
    · subst hk
      obtain ⟨c, hc⟩ := h (n, .free) List.mem_cons_self rfl
      simp only [beq_self_eq_true, if_true, cellOf, hc, clOf, pure_bind, bind_assoc]
      exact ih _
    · have hb : (k == NameKind.free) = false := by simpa using hk
      simp only [hb, Bool.false_eq_true, if_false, clOf, pure_bind]
      exact ih _
theorem closureFor_eq (scope : Scope) (env : Env) (h : ∀ x ∈ scope.names, x.2 = .free → ∃ c, env.cells.lookup x.1 = some c) : closureFor scope env = pure (clOf env scope.names []) := by
  have e := closure_eq env scope.names [] h
  unfold closureFor
  show (forIn scope.names ([] : List (Str × Addr)) (fun (x : Str × NameKind) (r : List (Str × Addr)) => if (x.2 == NameKind.free) = true then do let c ← cellOf env x.1; pure (ForInStep.yield ((x.1, c) :: r)) else pure (ForInStep.yield r)) >>= fun cs => pure cs) = _
  rw [e, pure_bind]
theorem clOf_sub (env : Env) : ∀ (names : List (Str × NameKind)) (cs : List (Str × Addr)), (∀ x c, cs.lookup x = some c → env.cells.lookup x = some c) → ∀ x c, (clOf env names cs).lookup x = some c → env.cells.lookup x = some c
  | [], cs, h, x, c, q => h x c q
  | (n, k) :: r, cs, h, x, c, q => by
    unfold clOf at q
    split at q
    · split at q
      · rename_i c' e
        refine clOf_sub env r _ (fun y d hy => ?_) x c q
        rw [List.lookup_cons] at hy
        split at hy
        · rename_i hb
          have : y = n := by simpa using hb
          cases hy
          rw [this]; exact e
        · exact h y d hy
      · exact clOf_sub env r cs h x c q
    · exact clOf_sub env r cs h x c q
theorem clOf_has (env : Env) : ∀ (names : List (Str × NameKind)) (cs : List (Str × Addr)) (x : Str), ((x, NameKind.free) ∈ names ∨ ∃ c, cs.lookup x = some c) → (∃ c, env.cells.lookup x = some c) → ∃ c, (clOf env names cs).lookup x = some c
  | [], cs, x, h, _ => by
    rcases h with h | h
    · cases h
    · exact h
  | (n, k) :: r, cs, x, h, hx => by
    unfold clOf
    by_cases hk : (k == NameKind.free) = true
    · rw [if_pos hk]
      split
      · rename_i c' e
        refine clOf_has env r _ x ?_ hx
        by_cases hxn : x = n
        · exact .inr ⟨c', by rw [hxn, List.lookup_cons]; simp⟩
        · rcases h with h | ⟨c, h⟩
          · rcases List.mem_cons.mp h with h | h
            · cases h; exact absurd rfl hxn
            · exact .inl h
          · exact .inr ⟨c, by
              rw [List.lookup_cons]
              have : (x == n) = false := by simpa using hxn
              rw [this]; exact h⟩
      · rename_i e
        refine clOf_has env r _ x ?_ hx
        rcases h with h | h
        · rcases List.mem_cons.mp h with h | h
          · cases h
            obtain ⟨c, hc⟩ := hx
            rw [hc] at e; cases e
          · exact .inl h
        · exact .inr h
    · rw [if_neg hk]
      refine clOf_has env r _ x ?_ hx
      rcases h with h | h
      · rcases List.mem_cons.mp h with h | h
        · cases h; exact absurd rfl hk
        · exact .inl h
      · exact .inr h
def cxC (X : Cx) (N' : List Str) (scope : Scope) (C : Addr) (s : Shared) (H : Hp) (fp : List Addr) (pins : List (Addr × Obj)) : Cx where
  prog := X.prog
  w := X.w
  K := X.K
  mg := X.mg
  base := X.base
  A := X.A
  N := N'
  s₀ := s
  H₀ := H
  env := compEnvC scope (clOf X.env scope.names []) C X.env
  outer := X.stack
  stack := X.stack
  ex := fp
  fn := fun _ => false
  calm := X.calm
  pn := X.pn ++ pins
  xe := fun _ _ => False
section
variable {prog : Program} {w : World} {A : Around} {R : Result → Shared → Prop} {s : Shared}
theorem compLoopG {elt target iter : Expr} {ifs : List Expr} {scope : Scope} {pos : Pos} {it acc : Value} {env : Env} (I : Nat → Shared → Prop)
    (turn : ∀ n s, I n s → wpAny (model prog w) A (pyNext it) (fun r s₁ => match r with
      | none => R (.ok .next) s₁
      | some v => wpAny (model prog w) A (letOwnedTupleGo target it v) (fun _ s₁' => wpAny (model prog w) A (assign target env v) (fun _ s₂ =>
          wpAny (model prog w) A (forIn ifs true fun c r => if r = true then do let ok ← isTrue c env (eval c env); pure (ForInStep.yield ok) else pure (ForInStep.yield r)) (fun ok s₃ =>
            if ok = true then wpAny (model prog w) A (eval elt env) (fun x s₄ =>
              wpAny (model prog w) A (call (.builtin "list.append") [acc, x]) (fun _ s₅ => ∃ m, m < n ∧ I m s₅) (fun _ _ => False) s₄) (fun _ _ => False) s₃
            else ∃ m, m < n ∧ I m s₃) (fun _ _ => False) s₂) (fun _ _ => False) s₁') (fun _ _ => False) s₁) (fun _ _ => False) s)
    (n : Nat) (h : I n s) :
    codeAny (model prog w) A (.compLoop (.ListComp elt [⟨target, iter, ifs, 0⟩] scope pos) 0 it acc env) R s := by
  refine codeAny_loop rfl I (fun n s hI => ?_) n h
  show wpAny _ A ((compTurn (.ListComp elt [⟨target, iter, ifs, 0⟩] scope pos) 0 it acc env).onRaise (fun x => do noteFrame x env; theTreesLotGoes x)) _ _ s
  refine wpAny_noted ?_
  rw [compTurn_list]
  refine wpAny_bind (wpAny_standAt (wpAny_bind (wpAny_mono (turn n s hI) (fun r s₁ h₁ => ?_) fun _ _ h' => h'.elim)))
  cases r with
  | none => exact wpAny_pure h₁
  | some v =>
    refine wpAny_bind (wpAny_mono h₁ (fun _ s₁' h₁ => ?_) fun _ _ h' => h'.elim)
    refine wpAny_bind (wpAny_mono h₁ (fun _ s₂ h₂ => wpAny_bind (wpAny_mono h₂ (fun ok s₃ h₃ => ?_) fun _ _ h' => h'.elim)) fun _ _ h' => h'.elim)
    cases ok with
    | false => exact wpAny_pure ⟨rfl, h₃⟩
    | true =>
      exact wpAny_bind (wpAny_bind (wpAny_mono h₃ (fun x s₄ h₄ => wpAny_bind (wpAny_mono h₄ (fun _ s₅ h₅ => wpAny_pure (wpAny_pure ⟨rfl, h₅⟩)) fun _ _ h' => h'.elim)) fun _ _ h' => h'.elim))
end
def PTs (X : Cx) (ifs : List Expr) (t : TT) : Prop := ∀ (pins : List (Addr × Obj)) (s : Shared) (σ : St) (H : Hp) (Q : Bool → Hp → Prop), Inv X pins σ H s → t σ H Q →
  wpAny (model X.prog X.w) X.A (forIn ifs true fun c r => if r = true then do let ok ← isTrue c X.env (eval c X.env); pure (ForInStep.yield ok) else pure (ForInStep.yield r)) (TP X pins σ Q) X.xe s
theorem pts_nil {X : Cx} : PTs X [] (fun _ H Q => Q true H) := fun _ _ _ H _ I h => wpAny_tests_nil ⟨H, I, h⟩
theorem pts_one {X : Cx} {c : Expr} {t : TT} (h : PT X c t) : PTs X [c] t := fun pins s σ H Q I q => wpAny_tests_one (h pins s σ H Q I q)
def tComp (K : PySem.W.Frag) (wi : TI) (src : St → St) (g : TG) (tts : TT) (t : TE) : TE := fun σ H Q => wi σ H fun J H1 => ∀ D, H1 D = none → K.lookup D = none → ∃ W : Nat → Nat → St → Hp → Prop,
  (∃ m, W 0 m (src σ) (upd H1 D (.lst []))) ∧ ∀ i m σ' H', W i m σ' H' →
    (J.stop i H' ∧ Q (.ref D) H') ∨ (J.go i H' ∧ ∃ N : St → Hp → Prop, (∀ σ' H', N σ' H' → ∃ m', m' < m ∧ W (i + 1) m' σ' H') ∧
      ∀ x H'', J.yld i H' x H'' → g x σ' H'' fun σ2 H2 => tts σ2 H2 fun b H3 => if b = true then t σ2 H3 (fun v H4 => ∃ ys, H4 D = some (.lst ys) ∧ ys.length < sizeLine ∧ N σ2 (upd H4 D (.lst (ys ++ [v])))) else N σ2 H3)
theorem relabel_lookup {scope : Scope} {env : Env} : ∀ {names : List (Str × NameKind)} {x : Str}, names.lookup x = some .free →
    ((names.map fun (n, k) => if (k == NameKind.free && env.scope.kind == .function && env.kindOf n == some .cell) then (n, NameKind.cell) else (n, k)).lookup x = some .cell ∨
     (names.map fun (n, k) => if (k == NameKind.free && env.scope.kind == .function && env.kindOf n == some .cell) then (n, NameKind.cell) else (n, k)).lookup x = some .free)
  | [], x, h => by simp at h
  | (n, k) :: r, x, h => by
    have ih := @relabel_lookup scope env r x
    show List.lookup x ((if (k == NameKind.free && env.scope.kind == .function && env.kindOf n == some .cell) = true then (n, NameKind.cell) else (n, k)) :: _) = _ ∨ List.lookup x ((if (k == NameKind.free && env.scope.kind == .function && env.kindOf n == some .cell) = true then (n, NameKind.cell) else (n, k)) :: _) = _
    cases hx : x == n with
    | true =>
      simp only [List.lookup_cons, hx] at h
      cases h
      by_cases hc : (NameKind.free == NameKind.free && env.scope.kind == .function && env.kindOf n == some .cell) = true
      · rw [if_pos hc]; simp [List.lookup_cons, hx]
      · rw [if_neg hc]; simp [List.lookup_cons, hx]
    | false =>
      simp only [List.lookup_cons, hx] at h
      by_cases hc : (k == NameKind.free && env.scope.kind == .function && env.kindOf n == some .cell) = true
      · rw [if_pos hc]; simp only [List.lookup_cons, hx]; exact ih h
      · rw [if_neg hc]; simp only [List.lookup_cons, hx]; exact ih h
structure CompSc (X : Cx) (N' : List Str) (scope : Scope) (src : St → St) : Prop where
  kind : scope.kind = .function
  nocell : ∀ y ∈ scope.names, y.2 ≠ .cell
  names : ∀ y ∈ scope.names, y.2 = .local → scope.names.lookup y.1 = some .local
  free : ∀ y ∈ scope.names, y.2 = .free → X.env.kindOf y.1 = some .cell ∨ X.env.kindOf y.1 = some .free
  rel : ∀ y, (relabel scope X.env).names.lookup y = some .cell ∨ (relabel scope X.env).names.lookup y = some .free → (y, NameKind.free) ∈ scope.names
  len : ∀ σ, (src σ).length = N'.length
  src : ∀ σ (i : Nat) v x, (src σ)[i]? = some (some v) → N'[i]? = some x → ∃ j : Nat, X.N[j]? = some x ∧ σ[j]? = some (some v) ∧ scope.names.lookup x = some .free
theorem comp_core {X : Cx} {N' : List Str} {elt iter tgt : Expr} {ifs : List Expr} {scope : Scope} {pos pos' : Pos} {use : Option (Value → Sem Unit)} {R : Value → Shared → Prop} {pins : List (Addr × Obj)} {s : Shared} {σ : St} {H : Hp} {Q : VK} {wi : TI} {src : St → St} {g : TG} {tts : TT} {t : TE} (hcalm : X.calm = true) (sc : CompSc X N' scope src)
    (hi : PI X tgt iter wi) (hg : ∀ C s H fp pins, PG (cxC X N' scope C s H fp pins) tgt g) (ht : ∀ C s H fp pins, PTs (cxC X N' scope C s H fp pins) ifs tts) (he : ∀ C s H fp pins, PE (cxC X N' scope C s H fp pins) elt t)
    (hs : ∀ x, foldedSetIterable iter X.env x = pure x) (I : Inv X pins σ H s) (h : tComp X.K wi src g tts t σ H Q)
    (fin : ∀ D H5 s6 C mC, Inv X pins σ H5 s6 → FpOk X pins H5 C → s6.heap.Ns C mC → Q (.ref D) H5 → compPost (model X.prog X.w) X.A X.xe use R (.ref D) C (.ok .next) s6) :
    wpAny (model X.prog X.w) X.A (comprehension (.ListComp elt [⟨tgt, iter, ifs, 0⟩] scope pos) scope X.env pos' (newList []) false (eval iter X.env) use) R X.xe s := by
  have hasC : ∀ x ∈ scope.names, x.2 = .free → ∃ c, X.env.cells.lookup x.1 = some c := fun x hx hf => I.ok.has x.1 (sc.free x hx hf)
  refine wpAny_comprehension_free (use := use) (env := X.env) rfl hs (closureFor_eq scope X.env hasC) sc.kind sc.names ?_
  show wpAny (model X.prog X.w) X.A (eval iter X.env) _ _ s
  refine wpAny_mono (hi pins s σ H _ I h) (fun v s1 h1 => wpAny_mono h1 (fun itv s2 h2 => ?_) fun _ _ z => z) fun _ _ z => z
  obtain ⟨it, fp, tn, J, H2, rfl, I2, T, st2, f2, q⟩ := h2
  refine wpAny_newObj_type ?_ (by show 0 ≤ sizeLine; exact Nat.zero_le _)
  have hD : H2 s2.heap.objs.size = none := I2.hok.fresh (Nat.le_refl _)
  have I3 : Inv X pins σ (upd H2 s2.heap.objs.size (.lst [])) { s2 with heap := s2.heap.push { cls := .type "list", data := .seq ([] : List Value).toArray } } := I2.lnew (t' := s2.toks) .nil (Nat.zero_le _)
  obtain ⟨W, ⟨m0, w0⟩, turn⟩ := q s2.heap.objs.size hD (by
    cases e : X.K.lookup s2.heap.objs.size with
    | none => rfl
    | some o => exact absurd (Heap.lt_size (I2.kIn _ o e)) (Nat.lt_irrefl _))
  refine wpAny_newFunctionEnv sc.nocell (by intro y hy; simp at hy) (fun h' hns hsb => ?_) sc.kind
  have fpIn : ∀ b ∈ fp, ∃ o, s2.heap.get? b = some o ∧ ∀ v, o.data ≠ .cell v := T.obj 0 s2.heap st2
  have fpD : ∀ b ∈ fp, b ≠ s2.heap.objs.size := fun b hb => let ⟨o, e, _⟩ := fpIn b hb; Nat.ne_of_lt (Heap.lt_size e)
  have f3 : ∀ b ∈ fp, FpOk X pins (upd H2 s2.heap.objs.size (.lst [])) b := fun b hb => ⟨by rw [upd_ne (fpD b hb)]; exact (f2 b hb).1, (f2 b hb).2⟩
  have st3 : tn 0 (s2.heap.push { cls := .type "list", data := .seq ([] : List Value).toArray }) := T.keep _ _ _ st2 fun b hb o e => Heap.get?_push_of_some _ e
  clear q hD h st2 f2 fpD
  generalize upd H2 s2.heap.objs.size (.lst []) = H3 at *
  generalize hDe : s2.heap.objs.size = D at *
  have fpIn3 : ∀ b ∈ fp, ∃ o, (s2.heap.push { cls := .type "list", data := .seq ([] : List Value).toArray }).get? b = some o ∧ ∀ v, o.data ≠ .cell v := T.obj 0 _ st3
  clear fpIn
  generalize s2.heap.push { cls := .type "list", data := .seq ([] : List Value).toArray } = h3 at *
  have old : ∀ b o, h3.get? b = some o → h'.get? b = some o := fun b o e => hsb.extBut b o (Nat.ne_of_lt (Heap.lt_size e)) (Heap.get?_push_of_some _ e)
  have stkNo : ∀ b, b ≠ X.env.locals → b ∉ X.fs → b ∉ frs X.stack := fun b h1 h2 hb => by
    rcases List.mem_cons.mp (I3.stkSub b hb) with z | z
    · exact h1 z
    · exact h2 z
  have sub := clOf_sub X.env scope.names [] (fun x c z => by simp at z)
  have cNe : ∀ b o, h3.get? b = some o → b ≠ h3.objs.size := fun b o e => Nat.ne_of_lt (Heap.lt_size e)
  have I4 : Inv (cxC X N' scope h3.objs.size { s2 with heap := h3 } H3 fp pins) [] (src σ) H3 { s2 with heap := h', toks := s2.toks + ([] : List (Str × Value)).length } := by
    refine ⟨⟨I3.ok.mod, sc.kind, I3.ok.glob, I3.ok.blt, Nat.le_refl _, fun x y c h1 h2 => I3.ok.inj x y c (sub x c h1) (sub y c h2), fun x hx => ?_, fun x c z => absurd (show false = true from z) Bool.false_ne_true, I3.ok.hd, I3.ok.frames, .inl rfl, fun b hb => ⟨?_, fun x c z => (f3 b hb).2.2.2.2.1 x c (sub x c z)⟩, fun b o e => I3.bs b o e, Nat.le_trans I3.ok.bsz I3.sz, fun b o e hb => ?_, fun b hb => stkNo b (f3 b hb).2.1 (f3 b hb).2.2.1, I3.stack, I3.stkFree⟩,
      rfl, I3.bare, Un.kept old, ⟨_, hns, fun i x v h1 h2 h3' => ?_⟩, fun x c z => ?_, I3.hok.fresh (Nat.le_refl _), fun x c z => I3.freeC x c (sub x c z), fun p hp => ?_, I3.hok.kept old, sc.len σ⟩
    · have hm := sc.rel x hx
      exact clOf_has X.env scope.names [] x (.inl hm) (hasC _ hm rfl)
    · obtain ⟨o, e, _⟩ := fpIn3 b hb
      exact cNe b o e
    · rcases (f3 b hb).2.2.2.1 with z | z
      · exact I3.ok.noex b o e z
      · have := Heap.lt_size (I3.ok.bs b o e).1
        exact absurd (Nat.lt_of_lt_of_le this z) (Nat.lt_irrefl _)
    · obtain ⟨j, e1, e2, e3⟩ := sc.src σ i v x h2 h1
      obtain ⟨m, hn, hl⟩ := I3.loc
      have hmem := PySem.mem_of_lookup e3
      have hk := sc.free (x, .free) hmem rfl
      have vis : Vis X.env.scope x := by
        rcases hk with k | k
        · exact .inr (.inl k)
        · exact .inr (.inr k)
      obtain ⟨u, r, lk⟩ := hl j x v e1 e2 vis
      refine ⟨u, r, .inr ⟨?_, ?_⟩⟩
      · exact relabel_lookup (scope := scope) e3
      · rcases lk with ⟨k, _⟩ | ⟨_, c, hc, hcell⟩
        · rcases hk with k' | k' <;> (rw [k] at k'; cases k')
        · obtain ⟨c', hc'⟩ := clOf_has X.env scope.names [] x (.inl hmem) ⟨c, hc⟩
          have := sub x c' hc'
          rw [hc] at this; cases this
          obtain ⟨o, ho, hd⟩ := hcell
          exact ⟨c, hc', o, old _ _ ho, hd⟩
    · obtain ⟨v, o, ho, hd⟩ := I3.cell x c (sub x c z)
      exact ⟨v, o, old _ _ ho, hd⟩
    · have hp' : p ∈ X.pn ++ pins := by simpa [cxC] using hp
      obtain ⟨e, n, ne, nf, d⟩ := I3.pin p hp'
      exact ⟨old _ _ e, n, cNe _ _ e, stkNo _ ne nf, d⟩
  have st4 : tn 0 h' := T.keep _ _ _ st3 fun b hb o e => old b o e
  have fr4 : ∀ b ∈ fp, H3 b = none := fun b hb => (f3 b hb).1
  have stat : ∀ {H' : Hp}, (∀ b ∈ fp, H' b = none) → ∀ b ∈ fp, FpOk (cxC X N' scope h3.objs.size { s2 with heap := h3 } H3 fp pins) [] H' b := fun hn b hb => by
    obtain ⟨g0, g1, g2, g3, g4, g5⟩ := f3 b hb
    obtain ⟨o, e, _⟩ := fpIn3 b hb
    exact ⟨hn b hb, cNe b o e, stkNo b g1 g2, .inl hb, fun x c z => g4 x c (sub x c z), fun p hp => g5 p (by simpa [cxC] using hp)⟩
  have loop : codeAny (model X.prog X.w) X.A (.compLoop (.ListComp elt [⟨tgt, iter, ifs, 0⟩] scope pos) 0 (.ref it) (.ref D) (compEnvC scope (clOf X.env scope.names []) h3.objs.size X.env))
      (compPost (model X.prog X.w) X.A X.xe use R (.ref D) h3.objs.size) { s2 with heap := h', toks := s2.toks + ([] : List (Str × Value)).length } := by
    refine compLoopG (fun n s' => ∃ i σ' H', Inv (cxC X N' scope h3.objs.size { s2 with heap := h3 } H3 fp pins) [] σ' H' s' ∧ tn i s'.heap ∧ (∀ b ∈ fp, H' b = none) ∧ W i n σ' H') ?_ m0 ⟨0, src σ, H3, I4, st4, fr4, w0⟩
    rintro n s5 ⟨i, σ5, H5, I5, st5, fr5, w5⟩
    rcases turn i n σ5 H5 w5 with ⟨stop, qn⟩ | ⟨go, N, hN, step⟩
    · refine wpAny_mono (T.done (cxC X N' scope h3.objs.size { s2 with heap := h3 } H3 fp pins) rfl rfl rfl hcalm i [] s5 σ5 H5 (fun _ _ => False) I5 (stat fr5) st5 stop) (fun r s6 hr => ?_) fun _ _ z => z
      obtain ⟨hr, I6⟩ := hr
      subst hr
      obtain ⟨mC, hnC, _⟩ := I6.loc
      have IX : Inv X pins σ H5 s6 := I3.call' (s' := s6) (ch := fp) I6.os I6.base I6.hok I6.bare fun b hb => ⟨(f3 b hb).2.2.2.1, (f3 b hb).2.1, (f3 b hb).2.2.2.2.1, (f3 b hb).2.2.2.2.2⟩
      exact fin D H5 s6 h3.objs.size mC IX (I3.fpOk (Nat.le_refl _) I6.free) hnC qn
    · refine wpAny_mono (T.item (cxC X N' scope h3.objs.size { s2 with heap := h3 } H3 fp pins) rfl rfl rfl hcalm i [] s5 σ5 H5 (fun _ _ => False) I5 (stat fr5) st5 go) (fun r s6 hr => ?_) fun _ _ z => z
      obtain ⟨u, hr, h6⟩ := hr
      subst hr
      refine wpAny_mono h6 (fun _ s7 h7 => ?_) fun _ _ z => z
      obtain ⟨x, H7, I7, r7, y7, st7, fr7⟩ := h7
      have I7' := I7.pinned (stat fr7) (T.obj _ _ st7)
      refine wpAny_mono (hg _ _ _ _ _ _ s7 σ5 H7 x u _ I7' r7 (step x H7 y7)) (fun _ s8 h8 => ?_) fun _ _ z => z
      obtain ⟨σ8, H8, I8, q8⟩ := h8
      have again : ∀ {H9 : Hp} {s9 : Shared}, Inv (cxC X N' scope h3.objs.size { s2 with heap := h3 } H3 fp pins) ([] ++ pinsAt fp s7.heap) σ8 H9 s9 → N σ8 H9 → ∃ m, m < n ∧ ∃ i σ' H', Inv (cxC X N' scope h3.objs.size { s2 with heap := h3 } H3 fp pins) [] σ' H' s9 ∧ tn i s9.heap ∧ (∀ b ∈ fp, H' b = none) ∧ W i m σ' H' := fun {H9 s9} I9 n9 => by
        obtain ⟨m', hm, w9⟩ := hN σ8 H9 n9
        refine ⟨m', hm, i + 1, σ8, H9, I9.unpinned, T.keep _ _ _ st7 fun b hb o e => (I9.pin (b, o) (List.mem_append_right _ (List.mem_append_right _ (mem_pinsAt hb e)))).1, fun b hb => ?_, w9⟩
        obtain ⟨o, e, d⟩ := T.obj _ _ st7 b hb
        exact (I9.pin (b, o) (List.mem_append_right _ (List.mem_append_right _ (mem_pinsAt hb e)))).2.1
      refine wpAny_mono (ht _ _ _ _ _ _ s8 σ8 H8 _ I8 q8) (fun ok s9 h9 => ?_) fun _ _ z => z
      obtain ⟨H9, I9, q9⟩ := h9
      cases ok with
      | false => exact again I9 q9
      | true =>
        refine wpAny_mono (he _ _ _ _ _ _ s9 σ8 H9 _ I9 q9) (fun y s10 h10 => ?_) fun _ _ z => z
        obtain ⟨vy, H10, I10, r10, ys, hys, hz, nx⟩ := h10
        refine wpAny_mono (mt_append (X := cxC X N' scope h3.objs.size { s2 with heap := h3 } H3 fp pins) _ s10 σ8 H10 (.ref D) [vy] (.ref D) [y] (fun _ H' => N σ8 H') I10 rfl (.cons r10 .nil) ⟨D, ys, vy, rfl, rfl, hys, hz, nx⟩) (fun _ s11 h11 => ?_) fun _ _ z => z
        obtain ⟨_, H11, I11, _, n11⟩ := h11
        exact again I11 n11
  exact codeAny_compStart_list loop (T.self _ 0 _ _ _ st4 loop)
theorem pe_comp {X : Cx} {N' : List Str} {elt iter tgt : Expr} {ifs : List Expr} {scope : Scope} {pos : Pos} {wi : TI} {src : St → St} {g : TG} {tts : TT} {t : TE} (hcalm : X.calm = true) (sc : CompSc X N' scope src)
    (hi : PI X tgt iter wi) (hg : ∀ C s H fp pins, PG (cxC X N' scope C s H fp pins) tgt g) (ht : ∀ C s H fp pins, PTs (cxC X N' scope C s H fp pins) ifs tts) (he : ∀ C s H fp pins, PE (cxC X N' scope C s H fp pins) elt t)
    (hs : ∀ x, foldedSetIterable iter X.env x = pure x := by intro _; rfl) : PE X (.ListComp elt [⟨tgt, iter, ifs, 0⟩] scope pos) (tComp X.K wi src g tts t) := by
  intro pins s σ H Q I h
  rw [eval_ListComp]
  refine comp_core (use := none) hcalm sc hi hg ht he hs I h fun D H5 s6 C mC IX fp hn q => ⟨mC, hn, fun h'' sb => ⟨.ref D, H5, ?_, rfl, q⟩⟩
  exact IX.turned (t' := s6.toks) (fun b o hb e => sb.extBut b o hb e) fp.1 fp.2.1 fp.2.2.2.1 fp.2.2.2.2.1 fp.2.2.2.2.2
end L3
set_option Elab.async false
set_option maxHeartbeats 4000000
namespace L3
open PySem PySem.Spec PyProof.Rows L2
section
variable {K : PySem.W.Frag} {ρ ρ' : List Addr} {H H' : Hp} {S : Sto}
theorem Sim.notin {a : Addr} (s : Sim K ρ S H) (h1 : H a = none) (h2 : K.lookup a = none) : ∀ n : Nat, ρ[n]? ≠ some a := fun n hn => by
  have hl : n < S.length := by rw [← s.len]; exact (List.getElem?_eq_some_iff.mp hn).1
  have q := s.at' n a _ hn (List.getElem?_eq_getElem hl)
  cases e : S[n] with
  | lst xs => rw [e] at q; obtain ⟨vs, z, _⟩ := q; rw [h1] at z; cases z
  | flst xs =>
    rw [e] at q
    obtain ⟨vs, z, _⟩ := q
    rcases z with ⟨o, z⟩ | ⟨o, _, _, z, _⟩
    · rw [h1] at z; cases z
    · rw [h2] at z; cases z
  | iset g m => rw [e] at q; have q : H a = _ := q; rw [h1] at q; cases q
  | dct kvs => rw [e] at q; obtain ⟨vs, z, _⟩ := q; rw [h1] at z; cases z
theorem Sim.adopt {a : Addr} {xs : List D} {vs : List V} (s : Sim K ρ S H) (ha : H a = some (.lst vs)) (hn : ∀ n : Nat, ρ[n]? ≠ some a) (r : RDs ρ H xs vs) : Sim K (ρ ++ [a]) (S ++ [.lst xs]) H := by
  refine ⟨by simp [s.len], fun i j b x1 x2 h1 h2 h3 h4 m1 m2 => ?_, fun n b o h1 h2 => ?_⟩
  · rcases get_push h1 with g1 | ⟨e1, f1⟩ <;> rcases get_push h2 with g2 | ⟨e2, f2⟩
    · rcases get_push h3 with h3 | ⟨e3, _⟩ <;> rcases get_push h4 with h4 | ⟨e4, _⟩
      · exact s.nd i j b _ _ g1 g2 h3 h4 m1 m2
      · have := (List.getElem?_eq_some_iff.mp g2).1; have := s.len; omega
      · have := (List.getElem?_eq_some_iff.mp g1).1; have := s.len; omega
      · omega
    · subst f2; exact absurd g1 (hn i)
    · subst f1; exact absurd g2 (hn j)
    · omega
  · rcases get_push h1 with h1 | ⟨e1, f1⟩
    · rcases get_push h2 with h2 | ⟨e2, f2⟩
      · exact (s.at' n b o h1 h2).more ext0_push
      · have := (List.getElem?_eq_some_iff.mp h1).1; have := s.len; omega
    · subst f1
      rcases get_push h2 with h2 | ⟨e2, f2⟩
      · have := (List.getElem?_eq_some_iff.mp h2).1; have := s.len; omega
      · subst f2
        exact ⟨vs, ha, r.mono0 ext0_push⟩
theorem Sim.beside {a : Addr} {ys : List V} {u : HO} (s : Sim K ρ S H) (ha : H a = some (.lst ys)) (hn : ∀ n : Nat, ρ[n]? ≠ some a) : Sim K ρ S (upd H a u) :=
  ⟨s.len, s.nd, fun n b o h1 h2 => (s.at' n b o h1 h2).written ha fun _ z => hn n (by rw [h1, z])⟩
theorem Ext.beside {a : Addr} {ys : List V} {u : HO} {ρ0 : List Addr} {H0 : Hp} (e : Ext ρ0 H0 ρ H) (h0 : H0 a = none) (ha : H a = some (.lst ys)) : Ext ρ0 H0 ρ (upd H a u) :=
  ⟨⟨e.pre, fun b vs h => by rw [upd_ne (ne_of (e.tup b vs h) ha (by intro z; cases z))]; exact e.tup b vs h⟩, fun b vs h n => ⟨by rw [upd_ne (ne_of_none h h0)]; exact (e.out b vs h n).1, (e.out b vs h n).2⟩⟩
theorem Ext.adopt {a : Addr} {ρ0 : List Addr} {H0 : Hp} (e : Ext ρ0 H0 ρ H) (h0 : H0 a = none) : Ext ρ0 H0 (ρ ++ [a]) H :=
  ⟨⟨fun n b h => (ext0_push (H := H)).pre n b (e.pre n b h), e.tup⟩, fun b vs h n => ⟨(e.out b vs h n).1, fun i hi => by
    rcases get_push hi with hi | ⟨_, z⟩
    · exact (e.out b vs h n).2 i hi
    · rw [z, h0] at h; cases h⟩⟩
end
abbrev ItM := Nat → Sto → Option (Option D)
abbrev IM := Lo → Sto → Option (ItM × Nat × Sto)
def ItOk (K : PySem.W.Frag) (ρ : List Addr) (H : Hp) (it : ItM) (J : It) : Prop := ∀ (i : Nat) ρ' S' H', Ext ρ H ρ' H' → Sim K ρ' S' H' →
  (it i S' = some none → J.stop i H') ∧ ∀ x, it i S' = some (some x) → J.go i H' ∧ ∀ y H'', J.yld i H' y H'' → H'' = H' ∧ RD ρ' H' x y
def ti (K : PySem.W.Frag) (im : IM) : TI := fun σ H R => ∃ ρ l S it k S', Sim K ρ S H ∧ RO ρ H l σ ∧ im l S = some (it, k, S') ∧ ∀ ρ' H' J, Ext ρ H ρ' H' → Sim K ρ' S' H' → ItOk K ρ' H' it J → R J H'
def PI3 (X : Cx) (tgt iter : Expr) (im : IM) : Prop := PI X tgt iter (ti X.K im)
theorem PI.imp {X : Cx} {tgt iter : Expr} {t u : TI} (h : PI X tgt iter t) (i : ∀ σ H R, u σ H R → t σ H R) : PI X tgt iter u := fun pins s σ H Q I q => h pins s σ H Q I (i _ _ _ q)
def itX (xs : List D) : ItM := fun i _ => some xs[i]?
def itL (n : Nat) : ItM := fun i S => (lstOf S n).bind fun xs => some xs[i]?
def iVal (e : EM) : IM := fun l S => (e l S).bind fun p => match p.1 with
  | .tup xs => some (itX xs, xs.length + 1, p.2)
  | .ref n => (lstOf p.2 n).bind fun xs => some (itL n, xs.length + 1, p.2)
  | _ => none
def iRng (r : Lo → Sto → Option ((Int × Nat) × Sto)) : IM := fun l S => (r l S).bind fun p => some (itX (rngD p.1.1 p.1.2), p.1.2 + 1, p.2)
section
variable {K : PySem.W.Frag}
theorem itok_tup {ρ : List Addr} {H : Hp} {a : Addr} {xs : List D} {vs : List V} (ha : H a = some (.tup vs)) (r : RDs ρ H xs vs) : ItOk K ρ H (itX xs) (Itt K a) := by
  intro i ρ' S' H' e s
  have ha' := SqT.of (K := K) (e.tup _ _ ha)
  have r' := r.mono e
  refine ⟨fun h => ?_, fun x h => ?_⟩
  · have h : xs[i]? = none := Option.some.inj h
    exact ⟨vs, ha', by rw [← r.length]; exact List.getElem?_eq_none_iff.mp h⟩
  · have h : xs[i]? = some x := Option.some.inj h
    obtain ⟨v, hv, rv⟩ := r'.get h
    refine ⟨⟨vs, v, ha', hv⟩, fun y H'' ⟨e1, e2⟩ => ⟨e1, ?_⟩⟩
    have := e2 vs ha'
    rw [hv] at this; cases this
    exact rv
theorem itok_lst {ρ : List Addr} {H : Hp} {a : Addr} {n : Nat} (ha : ρ[n]? = some a) : ItOk K ρ H (itL n) (Itl K a) := by
  intro i ρ' S' H' e s
  have ha' := e.pre _ _ ha
  refine ⟨fun h => ?_, fun x h => ?_⟩
  · obtain ⟨xs, h1, h⟩ := bnd h
    have h : xs[i]? = none := Option.some.inj h
    obtain ⟨b, vs, hb, sq, r⟩ := s.lstOf h1
    rw [ha'] at hb; cases hb
    exact ⟨vs, sq, by rw [← r.length]; exact List.getElem?_eq_none_iff.mp h⟩
  · obtain ⟨xs, h1, h⟩ := bnd h
    have h : xs[i]? = some x := Option.some.inj h
    obtain ⟨b, vs, hb, sq, r⟩ := s.lstOf h1
    rw [ha'] at hb; cases hb
    obtain ⟨v, hv, rv⟩ := r.get h
    refine ⟨⟨vs, v, sq, hv⟩, fun y H'' ⟨e1, e2⟩ => ⟨e1, ?_⟩⟩
    have := e2 vs sq
    rw [hv] at this; cases this
    exact rv
theorem itok_rng {ρ : List Addr} {H : Hp} {lo : Int} {n : Nat} : ItOk K ρ H (itX (rngD lo n)) (Itr lo n) := by
  intro i ρ' S' H' e s
  refine ⟨fun h => ?_, fun x h => ?_⟩
  · have h : (rngD lo n)[i]? = none := Option.some.inj h
    have := List.getElem?_eq_none_iff.mp h
    simp [rngD] at this
    exact this
  · have h : (rngD lo n)[i]? = some x := Option.some.inj h
    have hl := (List.getElem?_eq_some_iff.mp h).1
    simp only [rngD, List.length_map, List.length_range] at hl
    refine ⟨hl, fun y H'' ⟨e1, e2⟩ => ⟨e1, ?_⟩⟩
    unfold rngD at h
    rw [List.getElem?_map, List.getElem?_range hl] at h
    cases h
    rw [e2]
    exact .int _
end
section
variable {X : Cx} {tgt iter : Expr} {m : EM} {mA : AM} {p0 pos' : Pos} {a a2 : Expr}
theorem i3_val (hi : PE3 X iter m) : PI3 X tgt iter (iVal m) := PI.imp (PI.or (pi_list hi) (pi_tup hi)) fun σ H R ⟨ρ, l, S, it, k, S', sim, ro, hm, p⟩ => by
  obtain ⟨⟨x, S1⟩, q1, hm⟩ := bnd hm
  dsimp only at hm
  split at hm
  · rename_i xs
    cases hm
    refine .inr ⟨ρ, l, S, .tup xs, _, sim, ro, q1, fun ρ1 H1 x' e1 s1 r1 => ?_⟩
    cases r1 with
    | @tup xs a vs ha r => exact ⟨a, rfl, ⟨vs, SqT.of ha⟩, p ρ1 H1 _ e1 s1 (itok_tup ha r)⟩
  · rename_i n
    obtain ⟨xs, hx, hm⟩ := bnd hm
    cases hm
    refine .inl ⟨ρ, l, S, .ref n, _, sim, ro, q1, fun ρ1 H1 x' e1 s1 r1 => ?_⟩
    obtain ⟨a, vs, ha, sq, rv⟩ := s1.lstOf hx
    cases r1 with
    | ref hn =>
      rw [ha] at hn; cases hn
      exact ⟨a, rfl, ⟨vs, sq⟩, p ρ1 H1 _ e1 s1 (itok_lst ha)⟩
  · cases hm
theorem i3_rng1 (hgl : Gl X "range") (hmg : X.mg "range" = none) (ha : PA3 X [a] mA) (hst : starEach [a] X.env = [(false, eval a X.env)] := by rfl) : PI3 X tgt (.Call (.Name "range" p0) [a] [] pos') (iRng (rng1 mA)) :=
  PI.imp (pi_range1 hgl hmg ha hst) fun σ H R ⟨ρ, l, S, it, k, S', sim, ro, hm, p⟩ => by
    obtain ⟨⟨⟨lo, n⟩, S1⟩, q1, hm⟩ := bnd hm
    cases hm
    obtain ⟨⟨xs, S2⟩, q2, q1⟩ := bnd q1
    dsimp only at q1
    split at q1
    · rename_i j
      obtain ⟨hz, e⟩ := ite_some q1
      cases e
      refine ⟨ρ, l, S, [.int j], _, sim, ro, q2, fun ρ1 H1 vs e1 s1 r1 => ?_⟩
      obtain ⟨v, rfl, rv⟩ := r1.one
      cases rv
      exact ⟨j, rfl, hz.1, hz.2, p ρ1 H1 _ e1 s1 itok_rng⟩
    · cases q1
end
def compG (it : ItM) (g : GM) (t : TM) (e : EM) : Nat → Nat → Lo → Sto → Option (List D × Sto)
  | 0, _, _, _ => none
  | k + 1, i, l, S => (it i S).bind fun o => match o with
    | none => some ([], S)
    | some x => (g x l S).bind fun p => (t p.1 p.2).bind fun q => if q.1 = true then (e p.1 q.2).bind fun r => (compG it g t e k (i + 1) p.1 r.2).bind fun z => some (r.1 :: z.1, z.2) else compG it g t e k (i + 1) p.1 q.2
def srcL {α : Type} (ixs : List (Option Nat)) (l : List (Option α)) : List (Option α) := ixs.map fun o => match o with
  | some j => (l[j]?).join
  | none => none
def eComp (im : IM) (ixs : List (Option Nat)) (g : GM) (t : TM) (e : EM) : EM := fun l S => (im l S).bind fun p => (compG p.1 g t e p.2.1 0 (srcL ixs l) p.2.2).bind fun z => if z.1.length ≤ sizeLine then some (.ref z.2.length, z.2 ++ [.lst z.1]) else none
def tTrue : TM := fun _ S => some (true, S)
theorem srcL_ro {ρ : List Addr} {H : Hp} {l : Lo} {σ : St} (ixs : List (Option Nat)) (r : RO ρ H l σ) : RO ρ H (srcL ixs l) (srcL ixs σ) := by
  refine ⟨by simp [srcL], fun i d h => ?_⟩
  unfold srcL at h ⊢
  rw [List.getElem?_map] at h ⊢
  cases e : ixs[i]? with
  | none => rw [e] at h; cases h
  | some o =>
    rw [e] at h
    cases o with
    | none => cases h
    | some j =>
      have h : ((l[j]?).join : Option D) = some d := Option.some.inj h
      cases e2 : l[j]? with
      | none => rw [e2] at h; cases h
      | some o2 =>
        rw [e2] at h
        have h : o2 = some d := h
        subst h
        obtain ⟨v, h1, h2⟩ := r.get j d e2
        exact ⟨v, by show some ((σ[j]?).join) = _; rw [h1]; rfl, h2⟩
theorem comp3 {K : PySem.W.Frag} {im : IM} {ixs : List (Option Nat)} {g : GM} {t : TM} {e : EM} (σ : St) (H : Hp) (Q : VK) (q : te K (eComp im ixs g t e) σ H Q) : tComp K (ti K im) (srcL ixs) (tg K g) (tt K t) (te K e) σ H Q := by
  obtain ⟨ρ, l, S, v, S', sim, ro, hm, p⟩ := q
  obtain ⟨⟨it, k, S1⟩, q1, hm⟩ := bnd hm
  obtain ⟨⟨all, S2⟩, q2, hm⟩ := bnd hm
  obtain ⟨hz, he⟩ := ite_some hm
  cases he
  refine ⟨ρ, l, S, it, k, S1, sim, ro, q1, fun ρ1 H1 J e1 s1 io D hD hK => ?_⟩
  dsimp only at q2 hz p
  refine ⟨fun i m σ' H' => ∃ ρ' l' S' ds vs rest, Ext ρ1 H1 ρ' H' ∧ Sim K ρ' S' H' ∧ RO ρ' H' l' σ' ∧ H' D = some (.lst vs) ∧ (∀ n : Nat, ρ'[n]? ≠ some D) ∧ RDs ρ' H' ds vs ∧ compG it g t e m i l' S' = some (rest, S2) ∧ ds ++ rest = all, ⟨k, ?_⟩, ?_⟩
  · exact ⟨ρ1, srcL ixs l, S1, [], [], all, ext_new hD, s1.laid hD, (srcL_ro ixs (ro.mono e1)).mono (ext_new hD), upd_same, s1.notin hD hK, .nil, q2, rfl⟩
  · rintro i m σ' H' ⟨ρ', l', S', ds, vs, rest, e2, s2, ro2, hD2, hn2, rd2, hc, hall⟩
    cases m with
    | zero => cases hc
    | succ m =>
      unfold compG at hc
      obtain ⟨o, ho, hc⟩ := bnd hc
      obtain ⟨iStop, iGo⟩ := io i ρ' S' H' e2 s2
      cases o with
      | none =>
        cases hc
        rw [List.append_nil] at hall
        subst hall
        refine .inl ⟨iStop ho, p (ρ' ++ [D]) H' (.ref D) (e1.trans (e2.adopt hD)) (s2.adopt hD2 hn2 rd2) (.ref ?_)⟩
        rw [← s2.len]; exact get_self ρ' D
      | some x =>
        obtain ⟨⟨l3, S3⟩, q3, hc⟩ := bnd hc
        obtain ⟨⟨b, S4⟩, q4, hc⟩ := bnd hc
        obtain ⟨hgo, hy⟩ := iGo x ho
        refine .inr ⟨hgo, _, fun σ' H' h => h, fun y H'' hyl => ?_⟩
        obtain ⟨rfl, ry⟩ := hy y H'' hyl
        refine ⟨ρ', l', S', x, l3, S3, s2, ro2, ry, q3, fun ρ3 H3 σ3 e3 s3 ro3 => ⟨ρ3, l3, S3, b, S4, s3, ro3, q4, fun ρ4 H4 e4 s4 => ?_⟩⟩
        obtain ⟨hD3, hn3⟩ := e3.out D vs hD2 hn2
        obtain ⟨hD4, hn4⟩ := e4.out D vs hD3 hn3
        cases b with
        | false => exact iteF ⟨m, Nat.lt_succ_self m, ρ4, l3, S4, ds, vs, rest, e2.trans (e3.trans e4), s4, ro3.mono e4, hD4, hn4, rd2.mono (e3.trans e4), hc, hall⟩
        | true =>
          have hc : ((e l3 S4).bind fun r => (compG it g t e m (i + 1) l3 r.2).bind fun z => some (r.1 :: z.1, z.2)) = some (rest, S2) := hc
          obtain ⟨⟨y5, S5⟩, q5, hc⟩ := bnd hc
          obtain ⟨⟨rest', S6⟩, q6, hc⟩ := bnd hc
          cases hc
          refine iteT ⟨ρ4, l3, S4, y5, S5, s4, ro3.mono e4, q5, fun ρ5 H5 v5 e5 s5 r5 => ?_⟩
          obtain ⟨hD5, hn5⟩ := e5.out D vs hD4 hn4
          have e25 := e2.trans (e3.trans (e4.trans e5))
          have rd5 := rd2.mono (e3.trans (e4.trans e5))
          have hlen : vs.length < sizeLine := by
            have h1 := rd5.length
            have h2 := congrArg List.length hall
            rw [List.length_append, List.length_cons] at h2
            omega
          refine ⟨vs, hD5, hlen, m, Nat.lt_succ_self m, ρ5, l3, S5, ds ++ [y5], vs ++ [v5], rest', e25.beside hD hD5, s5.beside hD5 hn5, ?_, upd_same, hn5, ((rd5.append (.cons r5 .nil)).mono0 (ext0_upd hD5)), q6, by rw [← hall]; simp⟩
          have r0 := (ro3.mono e4).mono e5
          exact ⟨r0.len, fun i d h => let ⟨w, h1, h2⟩ := r0.get i d h; ⟨w, h1, h2.mono0 (ext0_upd hD5)⟩⟩
theorem pts3_nil {X : Cx} : PTs X [] (tt X.K tTrue) := fun pins s σ H Q I ⟨ρ, l, S, v, S', sim, ro, hm, p⟩ => by
  cases hm
  exact pts_nil pins s σ H Q I (p ρ H (Ext.refl ..) sim)
theorem pts3_one {X : Cx} {c : Expr} {t : TM} (h : PT3 X c t) : PTs X [c] (tt X.K t) := pts_one h
theorem p3_comp {X : Cx} {N' : List Str} {elt iter tgt : Expr} {ifs : List Expr} {scope : Scope} {pos : Pos} {im : IM} {ixs : List (Option Nat)} {g : GM} {t : TM} {e : EM} (hcalm : X.calm = true) (sc : CompSc X N' scope (srcL ixs))
    (hi : PI3 X tgt iter im) (hg : ∀ C s H fp pins, PG3 (cxC X N' scope C s H fp pins) tgt g) (ht : ∀ C s H fp pins, PTs (cxC X N' scope C s H fp pins) ifs (tt X.K t)) (he : ∀ C s H fp pins, PE3 (cxC X N' scope C s H fp pins) elt e)
    (hs : ∀ x, foldedSetIterable iter X.env x = pure x := by intro _; rfl) : PE3 X (.ListComp elt [⟨tgt, iter, ifs, 0⟩] scope pos) (eComp im ixs g t e) :=
  PE.imp (pe_comp (g := tg X.K g) (tts := tt X.K t) (t := te X.K e) hcalm sc hi hg ht he hs) comp3
end L3
set_option Elab.async false
set_option maxHeartbeats 4000000
namespace L3
open PySem PySem.Spec PyProof.Rows L2
def dPlus : D → D → Sto → Option (D × Sto)
  | .int i, .int j, S => some (.int (i + j), S)
  | .tup xs, .tup ys, S => if xs.length + ys.length ≤ sizeLine then some (.tup (xs ++ ys), S) else none
  | .ref n, .ref m, S => match S[n]?, S[m]? with
    | some (.lst xs), some (.lst ys) => if xs.length + ys.length ≤ sizeLine then some (.ref S.length, S ++ [.lst (xs ++ ys)]) else none
    | _, _ => none
  | _, _, _ => none
theorem op3_plus {K : PySem.W.Frag} : Op3 K dPlus (fun x y H Q => rI0 (fun i j => .int (i + j)) x y H Q ∨ (rCatT K x y H Q ∨ rCatT0 K x y H Q) ∨ rCat x y H Q) := by
  intro ρ S H x y x' y' v S' Q sim rx ry h p
  unfold dPlus at h
  split at h
  · cases rx; cases ry; cases h
    exact .inl ⟨_, _, rfl, rfl, p ρ H _ (Ext.refl ..) sim (.int _)⟩
  · refine .inr (.inl (op3_catT ρ S H _ _ x' y' v S' Q sim rx ry ?_ p))
    unfold dCatT
    exact h
  · split at h
    · rename_i xs ys e1 e2
      obtain ⟨hz, e⟩ := ite_some h
      cases e
      obtain ⟨a, us, ha, hH, r2⟩ := sim.lst e1
      obtain ⟨b, ws, hb, hH2, r3⟩ := sim.lst e2
      cases rx with
      | ref hn =>
        rw [ha] at hn; cases hn
        cases ry with
        | ref hm =>
          rw [hb] at hm; cases hm
          exact .inr (.inr ⟨a, b, us, ws, rfl, rfl, hH, hH2, by rw [← r2.length, ← r3.length]; exact hz, new_lst sim (r2.append r3) p⟩)
    · cases h
  · cases h
section
variable {X : Cx} {a b : Expr} {ma mb : EM} {pos : Pos}
theorem p3_plus (ha : PE3 X a ma) (hb : PE3 X b mb) : PE3 X (.BinOp a .Add b pos) (eOp dPlus ma mb) := p3_op (op_add.or ((op_catT.or op_catT0).or op_cat)) op3_plus ha hb
end
def Has (P : Program) (w : World) (K : PySem.W.Frag) (mg : Str → Option Value) (base : Heap) (x : Str) (k n : Nat) (m : FM) : Prop :=
  ∃ (f : Addr) (fd : FuncData) (ps : List Str), FnOk P w K mg base CX0 k f fd ps (sp3 K n m) ∧ mg x = some (.ref f) ∧ PySem.W.keepIn K (.ref f) = true ∧ Binds K fd ps []
section
variable {X : Cx} {a : Expr} {es : List Expr} {mA : AM} {pos p : Pos} {x : Str} {k j n : Nat} {m : FM}
theorem p3_fn (F : Has X.prog X.w X.K X.mg X.base x k n m) (hr : Room j X.A) (hkj : k ≤ j) (hg : Gl X x)
    (ha : PA3 X (a :: es) mA) (hl : ∀ l S v S', mA l S = some (v, S') → v.length = n) (hdb : (x == ("__debug__" : Str)) = false := by decide) (he : starEach (a :: es) X.env = (false, eval a X.env) :: starEach es X.env := by rfl) (hpl : (backTo pos (starEach es X.env)).any (·.1) = false := by rfl) :
    PE3 X (.Call (.Name x p) (a :: es) [] pos) (eCall m mA) := by
  obtain ⟨f, fd, ps, F, hm, hk, hb⟩ := F
  exact p3_call F (hr.mono hkj) hg hm hk hb ha hl hdb he hpl
theorem p3_len (hg : Gl X "len") (hm : X.mg "len" = none) (ha : PA3 X (a :: es) mA) (he : starEach (a :: es) X.env = (false, eval a X.env) :: starEach es X.env := by rfl) (hpl : (backTo pos (starEach es X.env)).any (·.1) = false := by rfl) : PE3 X (.Call (.Name "len" p) (a :: es) [] pos) (eCall fLen mA) :=
  p3_callB call_len_seq fn3_len hg hm PySem.boot_len ha (by decide) (by decide) he hpl
theorem boot_abs' : bootBuiltins "abs" = some (.builtin "abs") := by decide +kernel
theorem boot_int' : bootBuiltins "int" = some (.type "int") := by decide +kernel
theorem boot_tuple' : bootBuiltins "tuple" = some (.type "tuple") := by decide +kernel
theorem boot_list' : bootBuiltins "list" = some (.type "list") := by decide +kernel
theorem boot_bool' : bootBuiltins "bool" = some (.type "bool") := by decide +kernel
theorem p3_abs (hg : Gl X "abs") (hm : X.mg "abs" = none) (ha : PA3 X (a :: es) mA) (he : starEach (a :: es) X.env = (false, eval a X.env) :: starEach es X.env := by rfl) (hpl : (backTo pos (starEach es X.env)).any (·.1) = false := by rfl) : PE3 X (.Call (.Name "abs" p) (a :: es) [] pos) (eCall fAbs mA) :=
  p3_callB call_abs fn3_abs hg hm boot_abs' ha (by decide) (by decide) he hpl
theorem p3_tuple1 (hg : Gl X "tuple") (hm : X.mg "tuple" = none) (ha : PA3 X (a :: es) mA) (he : starEach (a :: es) X.env = (false, eval a X.env) :: starEach es X.env := by rfl) (hpl : (backTo pos (starEach es X.env)).any (·.1) = false := by rfl) : PE3 X (.Call (.Name "tuple" p) (a :: es) [] pos) (eCall fTuple mA) :=
  p3_callTy call_tuple_of fn3_tuple hg hm boot_tuple' ha (by decide) (by decide) he hpl
theorem p3_list1 (hg : Gl X "list") (hm : X.mg "list" = none) (ha : PA3 X (a :: es) mA) (he : starEach (a :: es) X.env = (false, eval a X.env) :: starEach es X.env := by rfl) (hpl : (backTo pos (starEach es X.env)).any (·.1) = false := by rfl) : PE3 X (.Call (.Name "list" p) (a :: es) [] pos) (eCall fList mA) :=
  p3_callTy call_list_of fn3_list hg hm boot_list' ha (by decide) (by decide) he hpl
end
theorem has_of {P : Program} {w : World} {K : PySem.W.Frag} {mg : Str → Option Value} {base : Heap} {x : Str} {st : Stmt} {f : Addr} {fd : FuncData} {N ps : List Str} {k n : Nat} {b : SM} (F : Fun K x x st f fd) (hm : mg x = some (.ref f)) (S : FnScope N ps (defScope st)) (hn : ps.length = n) (hb : Binds K fd ps [])
    (hbody : ∀ (cdv : Value), PySem.W.codeIn K cdv x = true → ∀ (A : Around) (outer : List Env) (s : Shared) (H : Hp) (E : XK), Room k (A.deeper (envOfC x (defScope st) s.heap.objs.size f cdv)) →
      PSs3 (cxOf CX0 P w K mg base N x (defScope st) f cdv A outer s H E).nox (defBody st) b) : Has P w K mg base x (k + 1) n (runB N.length b) :=
  ⟨f, fd, ps, fun3 F S hn hbody, hm, F.kp, hb⟩
def chk (scO scope : Scope) (NO N' : List Str) (ixs : List (Option Nat)) : Bool :=
  decide (scope.kind = .function) && (scope.names.all fun y => y.2 != .cell) && (scope.names.all fun y => y.2 != .local || scope.names.lookup y.1 == some .local) &&
  (scope.names.all fun y => y.2 != .free || (scO.names.lookup y.1 == some .cell || scO.names.lookup y.1 == some .free)) && (ixs.length == N'.length) &&
  ((List.range ixs.length).all fun i => match ixs[i]? with | some (some j) => (NO[j]? == N'[i]? && (match N'[i]? with | some x => scope.names.lookup x == some .free | none => false)) | _ => true)
theorem compSc_of {X : Cx} {scO scope : Scope} {NO N' : List Str} {ixs : List (Option Nat)} (hX : X.env.scope = scO) (hN : X.N = NO) (h : chk scO scope NO N' ixs = true) : CompSc X N' scope (srcL ixs) := by
  unfold chk at h
  simp only [Bool.and_eq_true, decide_eq_true_eq, List.all_eq_true, beq_iff_eq, Bool.or_eq_true, bne_iff_ne, ne_eq] at h
  obtain ⟨⟨⟨⟨⟨h1, h2⟩, h3⟩, h4⟩, h5⟩, h6⟩ := h
  refine ⟨h1, h2, fun y hy hl => ?_, fun y hy hl => ?_, fun y hy => ?_, fun σ => by simp [srcL, h5], fun σ i v x hv hx => ?_⟩
  · rcases h3 y hy with z | z
    · exact absurd hl z
    · exact z
  · show X.env.scope.names.lookup y.1 = _ ∨ X.env.scope.names.lookup y.1 = _
    rw [hX]
    rcases h4 y hy with z | z
    · exact absurd hl z
    · exact z
  · have mem : ∃ k, (k = NameKind.cell ∨ k = NameKind.free) ∧ (y, k) ∈ (relabel scope X.env).names := by
      rcases hy with z | z
      · exact ⟨_, .inl rfl, PySem.mem_of_lookup z⟩
      · exact ⟨_, .inr rfl, PySem.mem_of_lookup z⟩
    obtain ⟨k, hk, hm⟩ := mem
    unfold relabel at hm
    obtain ⟨⟨n, k'⟩, hm1, hm2⟩ := List.mem_map.mp hm
    dsimp only at hm2
    split at hm2
    · rename_i hc
      have : k' = .free := by
        rw [Bool.and_eq_true, Bool.and_eq_true] at hc
        exact eq_of_beq hc.1.1
      cases hm2
      rw [← this]; exact hm1
    · cases hm2
      rcases hk with z | z
      · exact absurd z (h2 _ hm1)
      · rw [← z]; exact hm1
  · have hl : i < ixs.length := by
      have := (List.getElem?_eq_some_iff.mp hv).1
      simpa [srcL] using this
    unfold srcL at hv
    rw [List.getElem?_map] at hv
    have q := h6 i (List.mem_range.mpr hl)
    cases e : ixs[i]? with
    | none => rw [e] at hv; cases hv
    | some o =>
      rw [e] at hv
      cases o with
      | none => cases hv
      | some j =>
        rw [e] at q
        dsimp only at q
        rw [hx] at q
        simp only [Bool.and_eq_true, beq_iff_eq] at q
        have hv : ((σ[j]?).join : Option V) = some v := Option.some.inj hv
        refine ⟨j, by rw [hN]; exact q.1, ?_, q.2⟩
        cases e2 : σ[j]? with
        | none => rw [e2] at hv; cases hv
        | some o2 => rw [e2] at hv; have hv : o2 = some v := hv; rw [hv]
theorem law_sp {K : PySem.W.Frag} {H : Hp} {a : Addr} {ns : List Int} {m : FM} (hO : Only H) (hS : SqL K H a (ns.map V.int)) (h : ∃ S', m [.ref 0] [.flst (ns.map D.int)] = some (.bl true, S')) : sp3 K 1 m [.ref a] H (fun v _ => v = .bl true) fun _ _ _ => False := by
  obtain ⟨S', h⟩ := h
  have rn : ∀ ns : List Int, RDs [a] H (ns.map D.int) (ns.map V.int) := fun ns => by
    induction ns with
    | nil => exact .nil
    | cons x r ih => exact .cons (.int x) ih
  refine ⟨rfl, [a], [.ref 0], _, _, S', ⟨rfl, fun i j b o1 o2 h1 h2 h3 h4 m1 m2 => ?_, fun n b o h1 h2 => ?_⟩, .cons (.ref rfl) .nil, h, fun ρ' H' v' e s r => ?_⟩
  · cases i with
    | zero => cases h3; cases m1
    | succ i => cases h3
  · cases n with
    | succ n => cases h1
    | zero =>
      cases h1; cases h2
      refine ⟨_, ?_, rn ns⟩
      rcases hS with (z | ⟨o, z⟩) | z
      · rcases hO a with y | ⟨o, xs, y⟩ <;> (rw [z] at y; cases y)
      · exact .inl ⟨o, z⟩
      · exact .inr z
  · cases r; rfl
def top (b : List Stmt) (i : Nat) : Stmt := b.getD i (.Pass ⟨0, 0, 0, 0⟩)
end L3
set_option Elab.async false
set_option maxHeartbeats 4000000
namespace L3
open PySem
def We (m : EM) (l : Lo) (S : Sto) (Q : D → Sto → Prop) : Prop := ∃ v S', m l S = some (v, S') ∧ Q v S'
def Wt (m : TM) (l : Lo) (S : Sto) (Q : Bool → Sto → Prop) : Prop := ∃ v S', m l S = some (v, S') ∧ Q v S'
def Wa (m : AM) (l : Lo) (S : Sto) (Q : List D → Sto → Prop) : Prop := ∃ v S', m l S = some (v, S') ∧ Q v S'
def Wo (o : Option (D × Sto)) (Q : D → Sto → Prop) : Prop := ∃ v S', o = some (v, S') ∧ Q v S'
def Wg (o : Option (Lo × Sto)) (Q : Lo → Sto → Prop) : Prop := ∃ l S', o = some (l, S') ∧ Q l S'
def Wr (o : Option (Fl × Lo × Sto)) (Q : Fl → Lo → Sto → Prop) : Prop := ∃ f l S', o = some (f, l, S') ∧ Q f l S'
abbrev Ws (m : SM) (l : Lo) (S : Sto) (Q : Fl → Lo → Sto → Prop) : Prop := Wr (m l S) Q
section
variable {a b c : EM} {t u : TM} {l : Lo} {S : Sto} {Q : D → Sto → Prop} {QB : Bool → Sto → Prop} {QA : List D → Sto → Prop} {QS : Fl → Lo → Sto → Prop} {QG : Lo → Sto → Prop}
theorem we_var {i : Nat} : We (eVar i) l S Q = ∃ d, l[i]? = some (some d) ∧ Q d S := by
  apply propext; unfold We eVar
  constructor
  · rintro ⟨v, S', h, q⟩
    split at h
    · rename_i d e; cases h; exact ⟨_, e, q⟩
    · cases h
  · rintro ⟨d, e, q⟩
    exact ⟨d, S, by rw [e], q⟩
theorem we_c {d : D} : We (eC d) l S Q = Q d S := by
  apply propext; unfold We eC
  exact ⟨fun ⟨v, S', h, q⟩ => by cases h; exact q, fun q => ⟨_, _, rfl, q⟩⟩
theorem we_op {f : D → D → Sto → Option (D × Sto)} : We (eOp f a b) l S Q = We a l S fun x S1 => We b l S1 fun y S2 => Wo (f x y S2) Q := by
  apply propext
  constructor
  · rintro ⟨v, S', h, q⟩
    obtain ⟨⟨x, S1⟩, h1, h⟩ := bnd h
    obtain ⟨⟨y, S2⟩, h2, h⟩ := bnd h
    exact ⟨x, S1, h1, y, S2, h2, v, S', h, q⟩
  · rintro ⟨x, S1, h1, y, S2, h2, v, S', h, q⟩
    exact ⟨v, S', by unfold eOp; rw [h1]; show (b l S1).bind _ = _; rw [h2]; exact h, q⟩
theorem we_un {f : D → Sto → Option (D × Sto)} : We (eUn f a) l S Q = We a l S fun x S1 => Wo (f x S1) Q := by
  apply propext
  constructor
  · rintro ⟨v, S', h, q⟩
    obtain ⟨⟨x, S1⟩, h1, h⟩ := bnd h
    exact ⟨x, S1, h1, v, S', h, q⟩
  · rintro ⟨x, S1, h1, v, S', h, q⟩
    exact ⟨v, S', by unfold eUn; rw [h1]; exact h, q⟩
theorem wa_nil : Wa aNil l S QA = QA [] S := by
  apply propext
  exact ⟨fun ⟨v, S', h, q⟩ => by cases h; exact q, fun q => ⟨_, _, rfl, q⟩⟩
theorem wa_cons {r : AM} : Wa (aCons a r) l S QA = We a l S fun x S1 => Wa r l S1 fun xs S2 => QA (x :: xs) S2 := by
  apply propext
  constructor
  · rintro ⟨v, S', h, q⟩
    obtain ⟨⟨x, S1⟩, h1, h⟩ := bnd h
    obtain ⟨⟨y, S2⟩, h2, h⟩ := bnd h
    cases h
    exact ⟨x, S1, h1, y, _, h2, q⟩
  · rintro ⟨x, S1, h1, y, S2, h2, q⟩
    exact ⟨x :: y, S2, by unfold aCons; rw [h1]; show (r l S1).bind _ = _; rw [h2]; rfl, q⟩
theorem we_call {f : FM} {r : AM} : We (eCall f r) l S Q = Wa r l S fun xs S1 => Wo (f xs S1) Q := by
  apply propext
  constructor
  · rintro ⟨v, S', h, q⟩
    obtain ⟨⟨x, S1⟩, h1, h⟩ := bnd h
    exact ⟨x, S1, h1, v, S', h, q⟩
  · rintro ⟨x, S1, h1, v, S', h, q⟩
    exact ⟨v, S', by unfold eCall; rw [h1]; exact h, q⟩
theorem we_methL {f : D → List D → Sto → Option (D × Sto)} {r : AM} : We (eMethL f a r) l S Q = We a l S fun x S1 => (∃ xs, recvL x S1 = some xs) ∧ Wa r l S1 fun ys S2 => Wo (f x ys S2) Q := by
  apply propext
  constructor
  · rintro ⟨v, S', h, q⟩
    obtain ⟨⟨x, S1⟩, h1, h⟩ := bnd h
    obtain ⟨xs, h2, h⟩ := bnd h
    obtain ⟨⟨y, S2⟩, h3, h⟩ := bnd h
    exact ⟨x, S1, h1, ⟨xs, h2⟩, y, S2, h3, v, S', h, q⟩
  · rintro ⟨x, S1, h1, ⟨xs, h2⟩, y, S2, h3, v, S', h, q⟩
    refine ⟨v, S', ?_, q⟩
    unfold eMethL; rw [h1]; show (recvL x S1).bind _ = _; rw [h2]; show (r l S1).bind _ = _; rw [h3]; exact h
theorem wt_e : Wt (tE a) l S QB = We a l S fun x S1 => ∃ k, x = .bl k ∧ QB k S1 := by
  apply propext
  constructor
  · rintro ⟨v, S', h, q⟩
    obtain ⟨⟨x, S1⟩, h1, h⟩ := bnd h
    refine ⟨x, S1, h1, ?_⟩
    cases x with
    | bl k => cases h; exact ⟨_, rfl, q⟩
    | _ => cases h
  · rintro ⟨x, S1, h1, k, rfl, q⟩
    exact ⟨k, S1, by unfold tE; rw [h1]; rfl, q⟩
theorem wt_and : Wt (tAnd3 t u) l S QB = Wt t l S fun k S1 => if k = true then Wt u l S1 QB else QB false S1 := by
  apply propext
  constructor
  · rintro ⟨v, S', h, q⟩
    obtain ⟨⟨x, S1⟩, h1, h⟩ := bnd h
    refine ⟨x, S1, h1, ?_⟩
    cases x with
    | true => exact ⟨v, S', h, q⟩
    | false => cases h; exact q
  · rintro ⟨x, S1, h1, h⟩
    cases x with
    | true => obtain ⟨v, S', h, q⟩ := h; exact ⟨v, S', by unfold tAnd3; rw [h1]; exact h, q⟩
    | false => exact ⟨false, S1, by unfold tAnd3; rw [h1]; rfl, h⟩
theorem wt_or : Wt (tOr3 t u) l S QB = Wt t l S fun k S1 => if k = true then QB true S1 else Wt u l S1 QB := by
  apply propext
  constructor
  · rintro ⟨v, S', h, q⟩
    obtain ⟨⟨x, S1⟩, h1, h⟩ := bnd h
    refine ⟨x, S1, h1, ?_⟩
    cases x with
    | false => exact ⟨v, S', h, q⟩
    | true => cases h; exact q
  · rintro ⟨x, S1, h1, h⟩
    cases x with
    | false => obtain ⟨v, S', h, q⟩ := h; exact ⟨v, S', by unfold tOr3; rw [h1]; exact h, q⟩
    | true => exact ⟨true, S1, by unfold tOr3; rw [h1]; rfl, h⟩
theorem wt_not : Wt (tNot3 t) l S QB = Wt t l S fun k S1 => QB (!k) S1 := by
  apply propext
  constructor
  · rintro ⟨v, S', h, q⟩
    obtain ⟨⟨x, S1⟩, h1, h⟩ := bnd h
    cases h
    exact ⟨x, _, h1, q⟩
  · rintro ⟨x, S1, h1, q⟩
    exact ⟨!x, S1, by unfold tNot3; rw [h1]; rfl, q⟩
theorem we_and : We (eAnd3 a b) l S Q = We a l S fun x S1 => ∃ k, x = .bl k ∧ if k = true then We b l S1 Q else Q (.bl false) S1 := by
  apply propext
  constructor
  · rintro ⟨v, S', h, q⟩
    obtain ⟨⟨x, S1⟩, h1, h⟩ := bnd h
    refine ⟨x, S1, h1, ?_⟩
    cases x with
    | bl k =>
      cases k with
      | true => exact ⟨true, rfl, v, S', h, q⟩
      | false => cases h; exact ⟨false, rfl, q⟩
    | _ => cases h
  · rintro ⟨x, S1, h1, k, rfl, h⟩
    cases k with
    | true => obtain ⟨v, S', h, q⟩ := h; exact ⟨v, S', by unfold eAnd3; rw [h1]; exact h, q⟩
    | false => exact ⟨_, S1, by unfold eAnd3; rw [h1]; rfl, h⟩
theorem we_or : We (eOr3 a b) l S Q = We a l S fun x S1 => ∃ k, x = .bl k ∧ if k = true then Q (.bl true) S1 else We b l S1 Q := by
  apply propext
  constructor
  · rintro ⟨v, S', h, q⟩
    obtain ⟨⟨x, S1⟩, h1, h⟩ := bnd h
    refine ⟨x, S1, h1, ?_⟩
    cases x with
    | bl k =>
      cases k with
      | false => exact ⟨false, rfl, v, S', h, q⟩
      | true => cases h; exact ⟨true, rfl, q⟩
    | _ => cases h
  · rintro ⟨x, S1, h1, k, rfl, h⟩
    cases k with
    | false => obtain ⟨v, S', h, q⟩ := h; exact ⟨v, S', by unfold eOr3; rw [h1]; exact h, q⟩
    | true => exact ⟨_, S1, by unfold eOr3; rw [h1]; rfl, h⟩
theorem we_not : We (eNot3 a) l S Q = We a l S fun x S1 => ∃ k, x = .bl k ∧ Q (.bl (!k)) S1 := by
  apply propext
  constructor
  · rintro ⟨v, S', h, q⟩
    obtain ⟨⟨x, S1⟩, h1, h⟩ := bnd h
    refine ⟨x, S1, h1, ?_⟩
    cases x with
    | bl k => cases h; exact ⟨k, rfl, q⟩
    | _ => cases h
  · rintro ⟨x, S1, h1, k, rfl, h⟩
    exact ⟨_, S1, by unfold eNot3; rw [h1]; rfl, h⟩
theorem we_if : We (eIf3 t a b) l S Q = Wt t l S fun k S1 => if k = true then We a l S1 Q else We b l S1 Q := by
  apply propext
  constructor
  · rintro ⟨v, S', h, q⟩
    obtain ⟨⟨x, S1⟩, h1, h⟩ := bnd h
    refine ⟨x, S1, h1, ?_⟩
    cases x with
    | true => exact ⟨v, S', h, q⟩
    | false => exact ⟨v, S', h, q⟩
  · rintro ⟨x, S1, h1, h⟩
    cases x with
    | true => obtain ⟨v, S', h, q⟩ := h; exact ⟨v, S', by unfold eIf3; rw [h1]; exact h, q⟩
    | false => obtain ⟨v, S', h, q⟩ := h; exact ⟨v, S', by unfold eIf3; rw [h1]; exact h, q⟩
variable {m n : SM}
theorem ws_next : Ws sNext l S QS = QS .nx l S := by
  apply propext
  exact ⟨fun ⟨f, v, S', h, q⟩ => by cases h; exact q, fun q => ⟨_, _, _, rfl, q⟩⟩
theorem ws_break : Ws sBreak l S QS = QS .bk l S := by
  apply propext
  exact ⟨fun ⟨f, v, S', h, q⟩ => by cases h; exact q, fun q => ⟨_, _, _, rfl, q⟩⟩
theorem ws_cont : Ws sCont l S QS = QS .ct l S := by
  apply propext
  exact ⟨fun ⟨f, v, S', h, q⟩ => by cases h; exact q, fun q => ⟨_, _, _, rfl, q⟩⟩
theorem ws_seq : Ws (sSeq m n) l S QS = Ws m l S fun f l1 S1 => match f with | .nx => Ws n l1 S1 QS | f => QS f l1 S1 := by
  apply propext
  constructor
  · rintro ⟨f, v, S', h, q⟩
    obtain ⟨⟨g, l1, S1⟩, h1, h⟩ := bnd h
    refine ⟨g, l1, S1, h1, ?_⟩
    cases g with
    | nx => exact ⟨f, v, S', h, q⟩
    | _ => cases h; exact q
  · rintro ⟨g, l1, S1, h1, h⟩
    cases g with
    | nx => obtain ⟨f, v, S', h, q⟩ := h; exact ⟨f, v, S', by unfold sSeq; rw [h1]; exact h, q⟩
    | bk => exact ⟨_, _, _, by unfold sSeq; rw [h1]; rfl, h⟩
    | ct => exact ⟨_, _, _, by unfold sSeq; rw [h1]; rfl, h⟩
    | rt d => exact ⟨_, _, _, by unfold sSeq; rw [h1]; rfl, h⟩
theorem ws_cut (R : Lo → Sto → Prop) (h1 : Ws m l S fun f l1 S1 => f = .nx ∧ R l1 S1) (h2 : ∀ l1 S1, R l1 S1 → Ws n l1 S1 QS) : Ws (sSeq m n) l S QS := by
  rw [ws_seq]
  obtain ⟨f, l1, S1, e, rfl, r⟩ := h1
  exact ⟨_, _, _, e, h2 l1 S1 r⟩
theorem ws_if : Ws (sIf t m n) l S QS = Wt t l S fun k S1 => if k = true then Ws m l S1 QS else Ws n l S1 QS := by
  apply propext
  constructor
  · rintro ⟨f, v, S', h, q⟩
    obtain ⟨⟨x, S1⟩, h1, h⟩ := bnd h
    refine ⟨x, S1, h1, ?_⟩
    cases x with
    | true => exact ⟨f, v, S', h, q⟩
    | false => exact ⟨f, v, S', h, q⟩
  · rintro ⟨x, S1, h1, h⟩
    cases x with
    | true => obtain ⟨f, v, S', h, q⟩ := h; exact ⟨f, v, S', by unfold sIf; rw [h1]; exact h, q⟩
    | false => obtain ⟨f, v, S', h, q⟩ := h; exact ⟨f, v, S', by unfold sIf; rw [h1]; exact h, q⟩
theorem ws_drop : Ws (sDrop a) l S QS = We a l S fun _ S1 => QS .nx l S1 := by
  apply propext
  constructor
  · rintro ⟨f, v, S', h, q⟩
    obtain ⟨⟨x, S1⟩, h1, h⟩ := bnd h
    cases h
    exact ⟨x, _, h1, q⟩
  · rintro ⟨x, S1, h1, q⟩
    exact ⟨_, _, _, by unfold sDrop; rw [h1]; rfl, q⟩
theorem ws_ret : Ws (sRet a) l S QS = We a l S fun x S1 => QS (.rt x) l S1 := by
  apply propext
  constructor
  · rintro ⟨f, v, S', h, q⟩
    obtain ⟨⟨x, S1⟩, h1, h⟩ := bnd h
    cases h
    exact ⟨x, _, h1, q⟩
  · rintro ⟨x, S1, h1, q⟩
    exact ⟨_, _, _, by unfold sRet; rw [h1]; rfl, q⟩
theorem ws_asg {g : GM} : Ws (sAsg a g) l S QS = We a l S fun x S1 => Wg (g x l S1) fun l2 S2 => QS .nx l2 S2 := by
  apply propext
  constructor
  · rintro ⟨f, v, S', h, q⟩
    obtain ⟨⟨x, S1⟩, h1, h⟩ := bnd h
    obtain ⟨⟨l2, S2⟩, h2, h⟩ := bnd h
    cases h
    exact ⟨x, S1, h1, _, _, h2, q⟩
  · rintro ⟨x, S1, h1, l2, S2, h2, q⟩
    refine ⟨_, _, _, ?_, q⟩
    unfold sAsg; rw [h1]; show (g x l S1).bind _ = _; rw [h2]; rfl
theorem wg_name {i : Nat} {d : D} : Wg (gName3 i d l S) QG = QG (l.set i (some d)) S := by
  apply propext
  exact ⟨fun ⟨v, S', h, q⟩ => by cases h; exact q, fun q => ⟨_, _, rfl, q⟩⟩
theorem wg_tup {k : Nat} {gs : GsM} {xs : List D} : Wg (gTup3 k gs (.tup xs) l S) QG = (xs.length = k ∧ Wg (gs xs l S) QG) := by
  apply propext
  constructor
  · rintro ⟨v, S', h, q⟩
    have h : (if xs.length = k then gs xs l S else none) = some (v, S') := h
    by_cases hl : xs.length = k
    · rw [if_pos hl] at h; exact ⟨hl, v, S', h, q⟩
    · rw [if_neg hl] at h; cases h
  · rintro ⟨hl, v, S', h, q⟩
    exact ⟨v, S', by show (if xs.length = k then gs xs l S else none) = _; rw [if_pos hl]; exact h, q⟩
theorem wg_nil : Wg (gNil3 [] l S) QG = QG l S := by
  apply propext
  exact ⟨fun ⟨v, S', h, q⟩ => by cases h; exact q, fun q => ⟨_, _, rfl, q⟩⟩
theorem wg_cons {g : GM} {gs : GsM} {x : D} {xs : List D} : Wg (gCons3 g gs (x :: xs) l S) QG = Wg (g x l S) fun l1 S1 => Wg (gs xs l1 S1) QG := by
  apply propext
  constructor
  · rintro ⟨v, S', h, q⟩
    obtain ⟨⟨l1, S1⟩, h1, h⟩ := bnd h
    exact ⟨l1, S1, h1, v, S', h, q⟩
  · rintro ⟨l1, S1, h1, v, S', h, q⟩
    exact ⟨v, S', by show (g x l S).bind _ = _; rw [h1]; exact h, q⟩
theorem wg_sub {o i : EM} {v : D} : Wg (gSub3 o i v l S) QG = We o l S fun x S1 => We i l S1 fun y S2 => ∃ S', setIx x y v S2 = some S' ∧ QG l S' := by
  apply propext
  constructor
  · rintro ⟨l', S', h, q⟩
    obtain ⟨⟨x, S1⟩, h1, h⟩ := bnd h
    obtain ⟨⟨y, S2⟩, h2, h⟩ := bnd h
    obtain ⟨S3, h3, h⟩ := bnd h
    cases h
    exact ⟨x, S1, h1, y, S2, h2, _, h3, q⟩
  · rintro ⟨x, S1, h1, y, S2, h2, S3, h3, q⟩
    refine ⟨l, S3, ?_, q⟩
    unfold gSub3; rw [h1]; show (i l S1).bind _ = _; rw [h2]; show (setIx x y v S2).bind _ = _; rw [h3]; rfl
theorem wo_some {d : D} : Wo (some (d, S)) Q = Q d S := by
  apply propext
  exact ⟨fun ⟨v, S', h, q⟩ => by cases h; exact q, fun q => ⟨_, _, rfl, q⟩⟩
theorem wo_bind {α : Type} {o : Option α} {f : α → Option (D × Sto)} : Wo (o.bind f) Q = ∃ x, o = some x ∧ Wo (f x) Q := by
  cases o with
  | none => simp [Wo]
  | some x => simp [Wo]
theorem wo_ite {p : Prop} [Decidable p] {x : D × Sto} : Wo (if p then some x else none) Q = (p ∧ Q x.1 x.2) := by
  obtain ⟨a, b⟩ := x
  by_cases hp : p
  · rw [if_pos hp]
    apply propext
    exact ⟨fun ⟨v, S', h, q⟩ => by cases h; exact ⟨hp, q⟩, fun q => ⟨a, b, rfl, q.2⟩⟩
  · simp [hp, Wo]
theorem wo_I0 {g : Int → Int → D} {i j : Int} : Wo (oI0 g (.int i) (.int j) S) Q = Q (g i j) S := wo_some
theorem wo_I {C : Int → Int → Bool} {g : Int → Int → D} {i j : Int} : Wo (oI C g (.int i) (.int j) S) Q = (C i j = true ∧ Q (g i j) S) := wo_ite
theorem wo_plus {i j : Int} : Wo (dPlus (.int i) (.int j) S) Q = Q (.int (i + j)) S := wo_some
theorem wo_ixT {xs : List D} {i : Int} : Wo (dIx (.tup xs) (.int i) S) Q = ∃ v, L2.atI xs i = some v ∧ Q v S := by
  show Wo ((L2.atI xs i).bind fun v => some (v, S)) Q = _
  rw [wo_bind]; simp only [wo_some]
theorem wo_ixL {k : Nat} {i : Int} : Wo (dIx (.ref k) (.int i) S) Q = ∃ xs, lstOf S k = some xs ∧ ∃ v, L2.atI xs i = some v ∧ Q v S := by
  show Wo ((lstOf S k).bind fun xs => (L2.atI xs i).bind fun v => some (v, S)) Q = _
  rw [wo_bind]; simp only [wo_bind, wo_some]
theorem wo_lenT {xs : List D} : Wo (fLen [.tup xs] S) Q = Q (.int xs.length) S := wo_some
theorem wo_lenL {k : Nat} : Wo (fLen [.ref k] S) Q = ∃ xs, lstOf S k = some xs ∧ Q (.int xs.length) S := by
  show Wo ((lstOf S k).bind fun xs => some (.int xs.length, S)) Q = _
  rw [wo_bind]; simp only [wo_some]
theorem wo_abs {i : Int} : Wo (fAbs [.int i] S) Q = Q (.int (if i < 0 then -i else i)) S := wo_some
theorem wo_intB {k : Bool} : Wo (fInt [.bl k] S) Q = Q (.int (if k then 1 else 0)) S := wo_some
theorem wo_tup {xs : List D} : Wo (fTup xs S) Q = (xs.length ≤ sizeLine ∧ Q (.tup xs) S) := wo_ite
theorem wo_lst {xs : List D} : Wo (fLst xs S) Q = (xs.length ≤ sizeLine ∧ Q (.ref S.length) (S ++ [.lst xs])) := wo_ite
theorem wo_tupleL {k : Nat} : Wo (fTuple [.ref k] S) Q = ∃ xs, lstOf S k = some xs ∧ Q (.tup xs) S := by
  show Wo ((lstOf S k).bind fun xs => some (.tup xs, S)) Q = _
  rw [wo_bind]; simp only [wo_some]
theorem wo_eqI {i j : Int} : Wo (dEq (.int i) (.int j) S) Q = Q (.bl (decide (i = j))) S := wo_some
theorem wo_eqB {i j : Bool} : Wo (dEq (.bl i) (.bl j) S) Q = Q (.bl (decide (i = j))) S := wo_some
theorem wo_neS {i j : Str} : Wo (dNe (.str i) (.str j) S) Q = Q (.bl (!decide (i = j))) S := wo_some
theorem wo_is {x : D} : Wo (dIs x .non S) Q = Q (.bl (isNon x)) S := by
  cases x <;> exact wo_some
theorem wo_isnot {x : D} : Wo (dIsNot x .non S) Q = Q (.bl (!isNon x)) S := by
  cases x <;> exact wo_some
theorem wo_append {k : Nat} {x : D} : Wo (mAppend (.ref k) [x] S) Q = ∃ xs, S[k]? = some (.lst xs) ∧ xs.length < sizeLine ∧ Q .non (S.set k (.lst (xs ++ [x]))) := by
  show Wo (match S[k]? with | some (.lst xs) => if xs.length < sizeLine then some (.non, S.set k (.lst (xs ++ [x]))) else none | _ => none) Q = _
  cases e : S[k]? with
  | none => simp [Wo]
  | some o =>
    cases o with
    | lst xs => simp [wo_ite]
    | flst xs => simp [Wo]
    | iset f n => simp [Wo]
    | dct kvs => simp [Wo]
theorem wo_run {k : Nat} {b : SM} {ds : List D} : Wo (runB k b ds S) Q = Ws b (ds.map some ++ List.replicate (k - ds.length) none) S fun f _ S1 => match f with | .rt d => Q d S1 | .nx => Q .non S1 | _ => False := by
  apply propext
  constructor
  · rintro ⟨v, S', h, q⟩
    obtain ⟨⟨f, l1, S1⟩, h1, h⟩ := bnd h
    refine ⟨f, l1, S1, h1, ?_⟩
    cases f with
    | rt d => cases h; exact q
    | nx => cases h; exact q
    | bk => cases h
    | ct => cases h
  · rintro ⟨f, l1, S1, h1, q⟩
    cases f with
    | rt d => exact ⟨_, _, by unfold runB; rw [h1]; rfl, q⟩
    | nx => exact ⟨_, _, by unfold runB; rw [h1]; rfl, q⟩
    | bk => cases q
    | ct => cases q
end
theorem Wo.mono {o : Option (D × Sto)} {Q Q' : D → Sto → Prop} (h : Wo o Q) (i : ∀ v S, Q v S → Q' v S) : Wo o Q' := let ⟨v, S, e, q⟩ := h; ⟨v, S, e, i v S q⟩
theorem Wr.mono {o : Option (Fl × Lo × Sto)} {Q Q' : Fl → Lo → Sto → Prop} (h : Wr o Q) (i : ∀ f v S, Q f v S → Q' f v S) : Wr o Q' := let ⟨f, v, S, e, q⟩ := h; ⟨f, v, S, e, i f v S q⟩
section
variable {g : GM} {b : SM} {l : Lo} {S : Sto} {QS : Fl → Lo → Sto → Prop}
theorem forX_inv (P : Nat → Lo → Sto → Prop) : ∀ (xs : List D) (k : Nat) (l : Lo) (S : Sto), P k l S →
    (∀ (i : Nat) x l S, xs[i]? = some x → P (k + i) l S → Wg (g x l S) fun l1 S1 => Ws b l1 S1 fun f l2 S2 => (f = .nx ∨ f = .ct) ∧ P (k + i + 1) l2 S2) →
    Wr (forX g b xs l S) fun f l' S' => f = .nx ∧ P (k + xs.length) l' S'
  | [], k, l, S, h0, _ => ⟨_, _, _, rfl, rfl, h0⟩
  | x :: xs, k, l, S, h0, hs => by
    obtain ⟨l1, S1, e1, f, l2, S2, e2, hf, h1⟩ := hs 0 x l S rfl h0
    have ih := forX_inv P xs (k + 1) l2 S2 h1 fun i y l S hy hp => by
      have := hs (i + 1) y l S (by simpa using hy) (by rw [show k + (i + 1) = k + 1 + i by omega]; exact hp)
      rw [show k + (i + 1) + 1 = k + 1 + i + 1 by omega] at this
      exact this
    obtain ⟨f', l', S', e3, q1, q2⟩ := ih
    refine ⟨f', l', S', ?_, q1, by rw [List.length_cons, show k + (xs.length + 1) = k + 1 + xs.length by omega]; exact q2⟩
    unfold forX
    rw [e1]; show (b l1 S1).bind _ = _; rw [e2]
    rcases hf with rfl | rfl <;> exact e3
theorem ws_forR {as : AM} : Ws (sForR (rng1 as) g b) l S QS = Wa as l S fun xs S1 => ∃ j, xs = [.int j] ∧ (-(2 ^ 62) ≤ j ∧ j < 2 ^ 62) ∧ Wr (forX g b (rngD 0 j.toNat) l S1) QS := by
  apply propext
  constructor
  · rintro ⟨f, v, S', h, q⟩
    obtain ⟨⟨⟨lo, n⟩, S1⟩, h1, h⟩ := bnd h
    obtain ⟨⟨xs, S2⟩, h2, h1⟩ := bnd h1
    dsimp only at h1
    split at h1
    · rename_i j
      obtain ⟨hz, e⟩ := ite_some h1
      cases e
      exact ⟨_, _, h2, j, rfl, hz, f, v, S', h, q⟩
    · cases h1
  · rintro ⟨xs, S1, h1, j, rfl, hz, f, v, S', h, q⟩
    refine ⟨f, v, S', ?_, q⟩
    have : rng1 as l S = some ((0, j.toNat), S1) := by
      unfold rng1; rw [h1]; show (if _ then _ else _) = _; rw [if_pos hz]
    unfold sForR; show (rng1 as l S).bind _ = _; rw [this]; exact h
theorem ws_forT {e : EM} : Ws (sFor e g b) l S QS = We e l S fun x S1 => Wr (match x with | .tup xs => forX g b xs l S1 | .ref n => (lstOf S1 n).bind fun xs => forL g b n (xs.length + 1) 0 l S1 | _ => none) QS := by
  apply propext
  constructor
  · rintro ⟨f, v, S', h, q⟩
    obtain ⟨⟨x, S1⟩, h1, h⟩ := bnd h
    exact ⟨x, S1, h1, f, v, S', h, q⟩
  · rintro ⟨x, S1, h1, f, v, S', h, q⟩
    exact ⟨f, v, S', by unfold sFor; rw [h1]; exact h, q⟩
theorem rngD_get {lo : Int} {n i : Nat} {x : D} (h : (rngD lo n)[i]? = some x) : i < n ∧ x = .int (lo + i) := by
  have hl := (List.getElem?_eq_some_iff.mp h).1
  simp only [rngD, List.length_map, List.length_range] at hl
  unfold rngD at h
  rw [List.getElem?_map, List.getElem?_range hl] at h
  exact ⟨hl, (Option.some.inj h).symm⟩
theorem rngD_len (lo : Int) (n : Nat) : (rngD lo n).length = n := by simp [rngD]
end
end L3
set_option Elab.async false
set_option maxHeartbeats 4000000
namespace L3
open PySem PySem.Spec PyProof.Rows L2
mutual
def pyOf (S : Sto) : Nat → D → Option PyData
  | 0, _ => none
  | _ + 1, .non => some .none
  | _ + 1, .bl b => some (.bool b)
  | _ + 1, .int i => if i.natAbs.log2 < 1920 then some (.int i) else none
  | _ + 1, .str x => some (.str x)
  | k + 1, .tup xs => (pyAll S k xs).bind fun ds => some (.tuple ds)
  | k + 1, .ref n => (lstOf S n).bind fun xs => (pyAll S k xs).bind fun ds => some (.list ds)
  | _ + 1, .fn _ => none
termination_by k => (k, 0)
def pyAll (S : Sto) : Nat → List D → Option (List PyData)
  | _, [] => some []
  | k, x :: xs => (pyOf S k x).bind fun d => (pyAll S k xs).bind fun ds => some (d :: ds)
termination_by k xs => (k, xs.length + 1)
end
def fRepr : FM
  | [x], S => (pyOf S 140 x).bind fun d => if d.shown.length ≤ sizeLine then some (.str d.shown, S) else none
  | _, _ => none
section
variable {X : Cx} {pins : List (Addr × Obj)} {σ : St} {H : Hp} {s : Shared} {ρ : List Addr} {S : Sto}
mutual
theorem reads_of (I : Inv X pins σ H s) (sim : Sim X.K ρ S H) : ∀ (k : Nat) (d : D) (v : V) (u : Value) (p : PyData), RD ρ H d v → RelV v u → pyOf S k d = some p → (∃ as, Reads s.heap u p as) ∧ p.showable = true ∧ p.hasDict = false ∧ p.depth ≤ k
  | 0, d, v, u, p, _, _, h => by unfold pyOf at h; cases h
  | k + 1, .non, v, u, p, r, e, h => by
    unfold pyOf at h; cases h; cases r; cases e
    exact ⟨⟨_, .none⟩, rfl, rfl, Nat.zero_le _⟩
  | k + 1, .bl b, v, u, p, r, e, h => by
    unfold pyOf at h; cases h; cases r; cases e
    exact ⟨⟨_, .bool b⟩, rfl, rfl, Nat.zero_le _⟩
  | k + 1, .int i, v, u, p, r, e, h => by
    unfold pyOf at h
    obtain ⟨hz, e2⟩ := ite_some h
    cases e2; cases r
    obtain ⟨t, rfl⟩ := e
    exact ⟨⟨_, .int i t⟩, by unfold PyData.showable; exact decide_eq_true hz, rfl, Nat.zero_le _⟩
  | k + 1, .str x, v, u, p, r, e, h => by
    unfold pyOf at h; cases h; cases r
    obtain ⟨t, rfl⟩ := e
    exact ⟨⟨_, .str x t⟩, rfl, rfl, Nat.zero_le _⟩
  | k + 1, .fn _, v, u, p, r, e, h => by unfold pyOf at h; cases h
  | k + 1, .tup xs, v, u, p, r, e, h => by
    unfold pyOf at h
    obtain ⟨ds, h1, h⟩ := bnd h
    cases h
    cases r with
    | tup ha r =>
      cases e
      obtain ⟨its, rv, ⟨o, ho, hc, n, hd⟩, hz⟩ := I.tuple (SqT.of ha)
      obtain ⟨⟨as, h2⟩, h3, h4, h5⟩ := readsAll_of I sim k xs _ _ ds r rv h1
      refine ⟨⟨as, .tuple ho hc hd (by simpa using h2)⟩, ?_, ?_, ?_⟩
      · unfold PyData.showable; exact h3
      · unfold PyData.hasDict; exact h4
      · unfold PyData.depth; omega
  | k + 1, .ref n, v, u, p, r, e, h => by
    unfold pyOf at h
    obtain ⟨xs, h0, h⟩ := bnd h
    obtain ⟨ds, h1, h⟩ := bnd h
    cases h
    obtain ⟨a, vs, ha, sq, rd⟩ := sim.lstOf h0
    cases r with
    | ref hn =>
      rw [ha] at hn; cases hn
      cases e
      obtain ⟨its, rv, pl, hz⟩ := I.list sq
      obtain ⟨o, ho, hc, m, hd⟩ := pl.isList
      obtain ⟨⟨as, h2⟩, h3, h4, h5⟩ := readsAll_of I sim k xs _ _ ds rd rv h1
      refine ⟨⟨_, .list ho hc hd (by simpa using h2)⟩, ?_, ?_, ?_⟩
      · unfold PyData.showable; exact h3
      · unfold PyData.hasDict; exact h4
      · unfold PyData.depth; omega
termination_by k => (k, 0)
theorem readsAll_of (I : Inv X pins σ H s) (sim : Sim X.K ρ S H) : ∀ (k : Nat) (xs : List D) (vs : List V) (us : List Value) (ds : List PyData), RDs ρ H xs vs → Vals vs us → pyAll S k xs = some ds → (∃ as, ReadsAll s.heap us ds as) ∧ PyData.showableAll ds = true ∧ PyData.hasDictAll ds = false ∧ PyData.depthAll ds ≤ k
  | k, [], vs, us, ds, r, e, h => by
    unfold pyAll at h; cases h; cases r; cases e
    exact ⟨⟨_, .nil⟩, rfl, rfl, Nat.zero_le _⟩
  | k, x :: xs, vs, us, ds, r, e, h => by
    unfold pyAll at h
    obtain ⟨d, h1, h⟩ := bnd h
    obtain ⟨ds', h2, h⟩ := bnd h
    cases h
    cases r with
    | cons r1 r2 =>
      cases e with
      | cons e1 e2 =>
        obtain ⟨⟨as, q1⟩, q2, q3, q4⟩ := reads_of I sim k x _ _ d r1 e1 h1
        obtain ⟨⟨bs, p1⟩, p2, p3, p4⟩ := readsAll_of I sim k xs _ _ ds' r2 e2 h2
        refine ⟨⟨_, .cons q1 p1⟩, ?_, ?_, ?_⟩
        · unfold PyData.showableAll; rw [q2, p2]; rfl
        · unfold PyData.hasDictAll; rw [q3, p3]; rfl
        · unfold PyData.depthAll; omega
termination_by k xs => (k, xs.length + 1)
end
end
end L3
set_option Elab.async false
set_option maxHeartbeats 4000000
namespace L3
open PySem PySem.Spec PyProof.Rows L2
section
variable {X : Cx} {a : Expr} {es : List Expr} {mA : AM} {pos p : Pos}
theorem call_repr3 {k : Nat} (hr : Room k X.A) : CallR X (.builtin "repr") (fun xs H Q => ∃ v ρ S d pd, xs = [v] ∧ Sim X.K ρ S H ∧ RD ρ H d v ∧ pyOf S 140 d = some pd ∧ pd.shown.length ≤ sizeLine ∧ Q (.str pd.shown) H) := by
  intro pins s σ H xs us Q I r h
  obtain ⟨v, ρ, S, d, pd, rfl, sim, rd, hp, hz, q⟩ := h
  obtain ⟨u, rfl, ru⟩ := vals1 r
  have key := reads_of I sim 140 d v u pd rd ru hp
  have byRef : ∀ a, u = .ref a → wpAny (model X.prog X.w) X.A (call (.builtin "repr") [u]) (EP X pins σ Q) X.xe s := fun b hb => by
    subst hb
    obtain ⟨⟨as, h1⟩, h2, h3, h4⟩ := key
    have hu : X.A.units + (pd.depth + 1) < cLine := by have := hr.un; omega
    refine repr_of_reads' h1 h2 (fun z => by rw [h3] at z; cases z) hr.gd hu (fun _ _ e => e) (fun h' u tk hk => ?_) hz
    exact ⟨.str pd.shown, H, I.kept hk, ⟨u, rfl⟩, q⟩
  have hp' := hp
  cases rd with
  | non => cases ru; unfold pyOf at hp'; cases hp'; exact P.repr_of_none ⟨.str _, H, I.tok _, ⟨_, rfl⟩, q⟩
  | bl b => cases ru; unfold pyOf at hp'; cases hp'; exact P.repr_of_bool ⟨.str _, H, I.tok _, ⟨_, by cases b <;> rfl⟩, q⟩
  | int i =>
    obtain ⟨t, rfl⟩ := ru
    unfold pyOf at hp'
    obtain ⟨hi, e⟩ := ite_some hp'
    cases e
    exact P.repr_of_int hi ⟨.str _, H, I.tok _, ⟨_, rfl⟩, q⟩
  | str x => obtain ⟨t, rfl⟩ := ru; unfold pyOf at hp'; cases hp'; exact P.repr_of_str ⟨.str _, H, I.tok _, ⟨_, rfl⟩, q⟩ hz
  | tup ha r => exact byRef _ ru
  | ref hn => exact byRef _ ru
  | fn b => unfold pyOf at hp'; cases hp'
theorem fn3_repr {K : PySem.W.Frag} : Fn3 K fRepr (fun xs H Q => ∃ v ρ S d pd, xs = [v] ∧ Sim K ρ S H ∧ RD ρ H d v ∧ pyOf S 140 d = some pd ∧ pd.shown.length ≤ sizeLine ∧ Q (.str pd.shown) H) := by
  intro ρ S H xs vs v S' Q sim r h p
  unfold fRepr at h
  split at h
  · obtain ⟨pd, h1, h⟩ := bnd h
    obtain ⟨hz, e⟩ := ite_some h
    cases e
    obtain ⟨w, rfl, rw'⟩ := r.one
    exact ⟨w, ρ, _, _, pd, rfl, sim, rw', h1, hz, p ρ H _ (Ext.refl ..) sim (.str _)⟩
  · cases h
theorem boot_repr' : bootBuiltins "repr" = some (.builtin "repr") := by decide +kernel
end
end L3
set_option Elab.async false
set_option maxHeartbeats 4000000
set_option maxRecDepth 100000
namespace L3
open PySem PySem.Spec PyProof.Rows L2
theorem noFill_tuple_mul : fillsNumberSlot (.type "tuple") "mul" = pure false :=
  PySem.fillsNumberSlot_seq (id := "tuple.__mul__") (r := some (.builtin "tuple.__rmul__")) PySem.F.slot_tuple_mul.lookup (by decide +kernel) PySem.F.slot_tuple_rmul.lookup (by decide +kernel)
theorem repeat_tuple : seqRepeat? (.type "tuple") = pure (some (.builtin "tuple.__mul__")) := by
  unfold seqRepeat?
  rw [PySem.seqSlot_of (T := "tuple") (name := "__mul__") (id := "tuple.__mul__") PySem.F.slot_tuple_mul.lookup (by decide +kernel), PySem.seqSlot_of (T := "tuple") (name := "__rmul__") (id := "tuple.__rmul__") PySem.F.slot_tuple_rmul.lookup (by decide +kernel)]
  rfl
open PySem.AutoSeq1 (wpAny_loadPart')
theorem rmul_int_tuple (a : Int) (t : Tok) (l : Addr) (items : Array Value) (n : Nat) (dd : Option Addr) (sl : Array (Option Value)) :
    Meets (Builtin.«int.__rmul__» ⟨[.int a t, .ref l], []⟩) (fun _ R s => s.heap.get? l = some { cls := .type "tuple", dict := dd, data := .seq items n, slots := sl } ∧ R (.ok (.ret Value.notImplemented)) s) :=
  .of_wp fun prog w A R s h => by obtain ⟨hp, g, d, tk, os⟩ := s; obtain ⟨hl, h⟩ := h; wp_walk; exact ⟨_, rfl, h⟩
section
variable {prog : Program} {w : World} {A : Around} {E : Value → Shared → Prop} {s : Shared}
theorem mul_tup {t : Addr} {items : Array Value} {k : Int} {u : Tok} {Q : Value → Shared → Prop} (ht : IsTup s.heap t items) (k0 : 2 ≤ k) (k1 : k < 2 ^ 31) (hi : items.isEmpty = false) (hz : items.size * k.toNat ≤ sizeLine)
    (h : Q (.ref s.heap.objs.size) { s with heap := s.heap.push { cls := .type "tuple", data := .seq ((List.replicate k.toNat items).foldl (· ++ ·) #[]) } }) (h6 : ((List.replicate k.toNat items).foldl (· ++ ·) #[]).size ≤ sizeLine) :
    wpAny (model prog w) A (call (.builtin "tuple.__mul__") [.ref t, .int k u]) Q E s := by
  refine wpAny_call_entry PySem.F.slot_tuple_mul ht.typeIs PySem.F.entry_tuple_mul ?_ (PySem.F.args_tuple_mul_2 _ _)
  show wpAny _ _ (asIndex (.int k u) >>= _) _ _ s
  refine wpAny_bind ?_
  show wpAny _ _ (pure k) _ _ s
  refine wpAny_pure ?_
  have e1 : (decide (k < -(2 ^ 63)) || decide (k ≥ 2 ^ 63)) = false := by
    rw [Bool.or_eq_false_iff]; exact ⟨decide_eq_false (by omega), decide_eq_false (by omega)⟩
  have e2 : (items.isEmpty || k == 1) = false := by rw [hi, Bool.false_or]; exact beq_false_of_ne (by omega)
  have e3 : (decide (k ≤ 0) || items.isEmpty) = false := by rw [hi, Bool.or_false]; exact decide_eq_false (by omega)
  show wpAny _ _ (if (decide (k < -(2 ^ 63)) || decide (k ≥ 2 ^ 63)) = true then _ else _) _ _ s
  rw [if_neg (by rw [e1]; exact Bool.false_ne_true)]
  refine wpAny_bind (tupleItemsOf_ ht ?_)
  show wpAny _ _ (if (items.isEmpty || k == 1) = true then _ else _) _ _ s
  rw [if_neg (by rw [e2]; exact Bool.false_ne_true)]
  show wpAny _ _ (if (decide (k ≤ 0) || items.isEmpty) = true then _ else _) _ _ s
  rw [if_neg (by rw [e3]; exact Bool.false_ne_true)]
  have hk : (items.size : Int) * k = ((items.size * k.toNat : Nat) : Int) := by rw [Int.natCast_mul, Int.toNat_of_nonneg (by omega)]
  have hs : (sizeLine : Nat) = 16777216 := by decide
  show wpAny _ _ (if (items.size : Int) * k > (2 ^ 63 - 1) / 8 then _ else _) _ _ s
  rw [if_neg (by rw [hk]; omega)]
  show wpAny _ _ (if Builtin.Tuple.tupleTooMany ((items.size : Int) * k) = true then _ else _) _ _ s
  rw [if_neg (by unfold Builtin.Tuple.tupleTooMany; rw [hk]; simp only [decide_eq_true_eq]; omega)]
  first
    | exact wpAny_bind (m := Builtin.Tuple.tupleExact _) (wpAny_newObj_type (wpAny_pure ⟨_, rfl, h⟩) h6)
    | exact wpAny_bind (m := Builtin.Tuple.tupleExact _) (wpAny_newObj_type (wpAny_pure ⟨_, rfl, wpAny_pure h⟩) h6)
theorem mul_tup1 {t : Addr} {items : Array Value} {u : Tok} {Q : Value → Shared → Prop} (ht : IsTup s.heap t items) (h : Q (.ref t) s) :
    wpAny (model prog w) A (call (.builtin "tuple.__mul__") [.ref t, .int 1 u]) Q E s := by
  refine wpAny_call_entry PySem.F.slot_tuple_mul ht.typeIs PySem.F.entry_tuple_mul ?_ (PySem.F.args_tuple_mul_2 _ _)
  show wpAny _ _ (asIndex (.int 1 u) >>= _) _ _ s
  refine wpAny_bind ?_
  show wpAny _ _ (pure (1 : Int)) _ _ s
  refine wpAny_pure ?_
  show wpAny _ _ (if (decide ((1 : Int) < -(2 ^ 63)) || decide ((1 : Int) ≥ 2 ^ 63)) = true then _ else _) _ _ s
  rw [if_neg (by decide)]
  refine wpAny_bind (tupleItemsOf_ ht ?_)
  show wpAny _ _ (if (items.isEmpty || (1 : Int) == 1) = true then _ else _) _ _ s
  rw [if_pos (by simp)]
  unfold Builtin.Tuple.tupleIsExact
  refine wpAny_bind (wpAny_bind (wpAny_typeOf ht.typeIs (wpAny_pure ?_)))
  rw [if_pos (by decide)]
  exact wpAny_bind (wpAny_rule (wpAny_pure ⟨_, rfl, h⟩))
theorem mul_tup0 {t : Addr} {items : Array Value} {k : Int} {u : Tok} {Q : Value → Shared → Prop} (ht : IsTup s.heap t items) (k0 : k = 0) (hi : items.isEmpty = false)
    (h : Q (.ref s.heap.objs.size) { s with heap := s.heap.push { cls := .type "tuple", data := .seq #[] } }) :
    wpAny (model prog w) A (call (.builtin "tuple.__mul__") [.ref t, .int k u]) Q E s := by
  subst k0
  refine wpAny_call_entry PySem.F.slot_tuple_mul ht.typeIs PySem.F.entry_tuple_mul ?_ (PySem.F.args_tuple_mul_2 _ _)
  show wpAny _ _ (asIndex (.int 0 u) >>= _) _ _ s
  refine wpAny_bind ?_
  show wpAny _ _ (pure (0 : Int)) _ _ s
  refine wpAny_pure ?_
  show wpAny _ _ (if (decide ((0 : Int) < -(2 ^ 63)) || decide ((0 : Int) ≥ 2 ^ 63)) = true then _ else _) _ _ s
  rw [if_neg (by decide)]
  refine wpAny_bind (tupleItemsOf_ ht ?_)
  show wpAny _ _ (if (items.isEmpty || (0 : Int) == 1) = true then _ else _) _ _ s
  rw [if_neg (by rw [hi]; decide)]
  show wpAny _ _ (if (decide ((0 : Int) ≤ 0) || items.isEmpty) = true then _ else _) _ _ s
  rw [if_pos (by simp)]
  first
    | exact wpAny_bind (m := Builtin.Tuple.tupleExact _) (wpAny_newObj_type (wpAny_pure ⟨_, rfl, h⟩) (Nat.zero_le _))
    | exact wpAny_bind (m := Builtin.Tuple.tupleExact _) (wpAny_newObj_type (wpAny_pure ⟨_, rfl, h⟩) (by decide))
end
def rRepT3 (K : PySem.W.Frag) : R2 := fun x y H Q => ∃ a k xs, x = .ref a ∧ y = .int k ∧ SqT K H a xs ∧ xs ≠ [] ∧ 0 ≤ k ∧ k < 2 ^ 31 ∧ xs.length * k.toNat ≤ sizeLine ∧
  (k = 1 → Q (.ref a) H) ∧ (k ≠ 1 → ∀ p, H p = none → Q (.ref p) (upd H p (.tup (List.replicate k.toNat xs).flatten)))
theorem op_repT3 {X : Cx} : OpR X (binaryOp .Mult) (rRepT3 X.K) := by
  intro pins s σ H x y v u Q I rx ry h
  obtain ⟨a, k, xs, rfl, rfl, hx, hne, k0, k1, hz, q1, q2⟩ := h
  cases rx
  obtain ⟨t, rfl⟩ := ry
  obtain ⟨its, r, pt, _⟩ := I.tuple hx
  have hne' : its ≠ [] := fun z => hne (r.nil_iff.mp z)
  have hie : its.toArray.isEmpty = false := by cases its with
    | nil => exact absurd rfl hne'
    | cons _ _ => simp
  obtain ⟨⟨cls, dd, data, sl⟩, ho, hc, n, hd⟩ := id pt
  simp only at hc hd
  subst hc hd
  refine wpAny_binaryOp_repeat_ref (T := "tuple") (U := "int") (by decide) ⟨_, ho, rfl⟩ (fun s' => typeIs_int s' k t) noFill_tuple_mul PySem.F.fills_int_mul PySem.F.slot_int_rmul repeat_tuple PySem.F.slot_int_index.lookup
    (call_meets PySem.F.slot_int_rmul (typeIs_int s k t) PySem.F.entry_int_rmul (PySem.F.args_int_rmul_2 _ _) (rmul_int_tuple k t a its.toArray n dd sl) ⟨ho, rfl, ⟨_, ho, rfl⟩, ?_⟩)
  have f0 : ∀ m : Nat, List.foldl (fun x1 x2 => x1 ++ x2) #[] (List.replicate m its.toArray) = (List.replicate m its).flatten.toArray := fun m => by
    have := foldl_rep its m []
    rw [List.nil_append] at this
    exact this
  have hl : xs.length = its.length := r.length
  by_cases e1 : k = 1
  · subst e1
    exact mul_tup1 pt ⟨.ref a, H, I, rfl, q1 rfl⟩
  · by_cases e0 : k = 0
    · refine mul_tup0 pt e0 hie ?_
      have hv : Vals ([] : List V) ([] : List Value) := .nil
      refine ⟨.ref s.heap.objs.size, _, I.laid (t' := s.toks) (o := .tup []) (fun b ob q => Heap.get?_push_of_some _ q) (Nat.le_refl _) ?_, rfl, ?_⟩
      · exact ⟨Nat.zero_le _, [], .nil, IsTup.new _ _⟩
      · have := q2 e1 _ (I.hok.fresh (Nat.le_refl _))
        subst e0
        exact this
    · have hlen : (List.replicate k.toNat its).flatten.length = k.toNat * its.length := len_rep its k.toNat
      refine mul_tup pt (by omega) k1 hie (by rw [List.size_toArray, ← hl]; exact hz) ?_ ?_
      · rw [f0]
        refine ⟨.ref s.heap.objs.size, _, I.laid (t' := s.toks) (o := .tup (List.replicate k.toNat xs).flatten) (fun b ob q => Heap.get?_push_of_some _ q) (Nat.le_refl _) ?_, rfl, q2 e1 _ (I.hok.fresh (Nat.le_refl _))⟩
        exact ⟨by rw [len_rep, Nat.mul_comm]; exact hz, _, r.rep k.toNat, IsTup.new _ _⟩
      · rw [f0, List.size_toArray, hlen, Nat.mul_comm, ← hl]; exact hz
def dTimes : D → D → Sto → Option (D × Sto)
  | .int i, .int j, S => if (-(2 ^ 64) < i ∧ i < 2 ^ 64) ∨ (-(2 ^ 64) < j ∧ j < 2 ^ 64) then some (.int (i * j), S) else none
  | .tup (x :: xs), .int k, S => if 0 ≤ k ∧ k < 2 ^ 31 ∧ (xs.length + 1) * k.toNat ≤ sizeLine then some (.tup (List.replicate k.toNat (x :: xs)).flatten, S) else none
  | _, _, _ => none
theorem op3_times {K : PySem.W.Frag} : Op3 K dTimes (fun x y H Q => rI CMul (fun i j => .int (i * j)) x y H Q ∨ rRepT3 K x y H Q) := by
  intro ρ S H x y x' y' v S' Q sim rx ry h p
  unfold dTimes at h
  split at h
  · obtain ⟨hc, e⟩ := ite_some h
    cases e; cases rx; cases ry
    exact .inl ⟨_, _, rfl, rfl, hc, p ρ H _ (Ext.refl ..) sim (.int _)⟩
  · rename_i x xs k
    obtain ⟨⟨k0, k1, hz⟩, e⟩ := ite_some h
    cases e; cases ry
    cases rx with
    | @tup _ a vs ha r =>
      have hl := r.length
      refine .inr ⟨a, k, vs, rfl, rfl, SqT.of ha, ?_, k0, k1, by rw [← hl]; exact hz, fun e => ?_, fun _ => new_tup sim (r.rep k.toNat) p⟩
      · intro z; rw [z] at hl; cases hl
      · subst e
        have e2 : (List.replicate (1 : Int).toNat (x :: xs)).flatten = x :: xs := by simp
        rw [e2] at p
        exact p ρ H _ (Ext.refl ..) sim (.tup ha r)
  · cases h
section
variable {X : Cx} {a b : Expr} {ma mb : EM} {pos : Pos}
theorem p3_times (ha : PE3 X a ma) (hb : PE3 X b mb) : PE3 X (.BinOp a .Mult b pos) (eOp dTimes ma mb) := p3_op (op_mul.or op_repT3) op3_times ha hb
end
end L3
set_option Elab.async false
set_option maxHeartbeats 4000000
namespace L3
open PySem PySem.Spec PyProof.Rows L2
section
variable {X : Cx} {c : Expr} {body : List Stmt} {mc : TM} {mb : SM} {pos : Pos}
end
def isBl (b : Bool) : D → Bool
  | .bl c => c == b
  | _ => false
def dIsNotB : D → D → Sto → Option (D × Sto)
  | x, .bl b, S => some (.bl (!isBl b x), S)
  | _, _, _ => none
def vBl (b : Bool) : V → Bool
  | .bl c => c == b
  | _ => false
theorem vBl_ok {ρ : List Addr} {H : Hp} {x : D} {x' : V} {b : Bool} (r : RD ρ H x x') : vBl b x' = isBl b x := by
  cases r <;> rfl
section
variable {X : Cx}
theorem op_isNotB : OpR X (compareOp .IsNot) (fun x y H Q => (∀ z, x ≠ .flt z) ∧ ∃ b, y = .bl b ∧ Q (.bl (!vBl b x)) H) := by
  intro pins s σ H x y v u Q I rx ry h
  obtain ⟨hx, b, rfl, q⟩ := h
  cases ry
  cases x <;> first
    | (cases rx; exact wpAny_isNot_plain rfl (fin_bl I q rfl))
    | (rename_i c; cases rx; cases c <;> cases b <;> exact wpAny_isNot_plain rfl (fin_bl I q (by decide +kernel)))
    | (obtain ⟨t, rfl⟩ := rx; exact wpAny_isNot_plain rfl (fin_bl I q rfl))
theorem rd_noflt {ρ : List Addr} {H : Hp} {x : D} {x' : V} (r : RD ρ H x x') : ∀ z, x' ≠ .flt z := by
  cases r <;> (intro z e; cases e)
theorem op3_isNotB {K : PySem.W.Frag} : Op3 K dIsNotB (fun x y H Q => (∀ z, x ≠ .flt z) ∧ ∃ b, y = .bl b ∧ Q (.bl (!vBl b x)) H) := by
  intro ρ S H x y x' y' v S' Q sim rx ry h p
  unfold dIsNotB at h
  split at h
  · cases h; cases ry
    exact ⟨rd_noflt rx, _, rfl, by rw [vBl_ok rx]; exact p ρ H _ (Ext.refl ..) sim (.bl _)⟩
  · cases h
variable {a b : Expr} {ma mb : EM} {pos : Pos}
theorem t3_isNotB (ha : PE3 X a ma) (hb : PE3 X b mb) : PT3 X (.Compare a [.IsNot] [b] pos) (tE (eOp dIsNotB ma mb)) := t3_cmp op_isNotB op3_isNotB ha hb (nomark b)
end
section
variable {X : Cx}
variable {a b : Expr} {ma mb : EM} {pos : Pos} {k : Nat}
end
end L3
set_option Elab.async false
set_option maxHeartbeats 4000000
namespace L3
open PySem PySem.Spec PyProof.Rows L2
section
variable {X : Cx}
variable {a b : Expr} {ma mb : EM} {pos : Pos}
end
section
variable {X : Cx}
variable {o e : Expr} {mo m : EM} {apos cpos : Pos}
end
section
variable {prog : Program} {w : World} {A : Around} {E : Value → Shared → Prop} {s : Shared}
end
section
variable {X : Cx}
end
end L3
set_option Elab.async false
set_option maxHeartbeats 4000000
namespace L3
open PySem PySem.Spec PyProof.Rows L2
section
variable {X : Cx} {o e : Expr} {mo m : EM} {apos cpos : Pos}
end
section
variable {X : Cx} {o e : Expr} {mo m : EM} {apos cpos : Pos}
end
section
variable {X : Cx}
variable {a a2 : Expr} {mA : AM} {p p0 pos pos' : Pos}
end
end L3
set_option Elab.async false
set_option maxHeartbeats 4000000
namespace L3
open PySem PySem.Spec PyProof.Rows L2
def isT : D → Bool
  | .bl b => b
  | _ => false
def isBlD : D → Bool
  | .bl _ => true
  | _ => false
def vT : V → Bool
  | .bl b => b
  | _ => false
def isBlV : V → Bool
  | .bl _ => true
  | _ => false
def fAll : FM
  | [.ref n], S => (lstOf S n).bind fun xs => if xs.all isBlD = true then some (.bl (xs.all isT), S) else none
  | _, _ => none
theorem vt_ok {ρ : List Addr} {H : Hp} {x : D} {x' : V} (r : RD ρ H x x') : vT x' = isT x ∧ isBlV x' = isBlD x := by
  cases r <;> exact ⟨rfl, rfl⟩
theorem vts_ok {ρ : List Addr} {H : Hp} : ∀ {xs : List D} {vs : List V}, RDs ρ H xs vs → vs.all vT = xs.all isT ∧ vs.any vT = xs.any isT ∧ vs.all isBlV = xs.all isBlD
  | _, _, .nil => ⟨rfl, rfl, rfl⟩
  | _, _, .cons r q => by
    obtain ⟨h1, h2⟩ := vt_ok r
    obtain ⟨h3, h4, h5⟩ := vts_ok q
    simp only [List.all_cons, List.any_cons, h1, h2, h3, h4, h5, and_self]
section
variable {X : Cx}
theorem all_get {ys : List V} (tr : Nat → Bool) (h : ∀ (i : Nat) y, ys[i]? = some y → tr i = vT y) : (List.range ys.length).all tr = ys.all vT ∧ (List.range ys.length).any tr = ys.any vT := by
  have e : (List.range ys.length).map tr = ys.map vT := by
    apply List.ext_getElem?
    intro i
    rw [List.getElem?_map, List.getElem?_map]
    by_cases hi : i < ys.length
    · rw [List.getElem?_range hi, List.getElem?_eq_getElem hi]
      simp [h i _ (List.getElem?_eq_getElem hi)]
    · rw [List.getElem?_eq_none_iff.mpr (by simpa using hi), List.getElem?_eq_none_iff.mpr (by simpa using hi)]; rfl
  have a1 : (List.range ys.length).all tr = ((List.range ys.length).map tr).all id := by rw [List.all_map]; rfl
  have a2 : ys.all vT = (ys.map vT).all id := by rw [List.all_map]; rfl
  have a3 : (List.range ys.length).any tr = ((List.range ys.length).map tr).any id := by rw [List.any_map]; rfl
  have a4 : ys.any vT = (ys.map vT).any id := by rw [List.any_map]; rfl
  exact ⟨by rw [a1, a2, e], by rw [a3, a4, e]⟩
def rAll (K : PySem.W.Frag) (f : List V → Bool) : List V → Hp → VK → Prop := fun xs H Q => ∃ p ys, xs = [.ref p] ∧ SqL K H p ys ∧ ys.all isBlV = true ∧ Q (.bl (f ys)) H
theorem all_walk {pins : List (Addr × Obj)} {s : Shared} {σ : St} {H : Hp} {p : Addr} {ys : List V} {E : Value → Shared → Prop} {R : Bool → Bool → Shared → Prop} (hc : X.calm = true) (I : Inv X pins σ H s) (hq : SqL X.K H p ys) (hb : ys.all isBlV = true)
    (h : ∀ s', Inv X pins σ H s' → R (ys.all vT) (ys.any vT) s') :
    wpAny (model X.prog X.w) X.A.in1 (pyIter (.ref p)) (fun it s₂ => ∃ I fp wr n P St tr, it = .ref I ∧ Walks X.prog X.w X.A.in1 I fp wr n P St ∧ St 0 s₂.heap ∧ TruthOf X.prog X.w X.A.in1 P tr ∧
      ∀ h' tk, (∀ b o, b ∉ wr → s₂.heap.get? b = some o → h'.get? b = some o) → R ((List.range n).all tr) ((List.range n).any tr) { s₂ with heap := h', toks := tk }) E s := by
  obtain ⟨its, rv, pl, hz⟩ := I.list hq
  refine wpAny_pyIter_list pl.isList ?_
  have hne : p ≠ s.heap.objs.size := by
    obtain ⟨o, ho, _⟩ := pl.isList
    exact Nat.ne_of_lt (Heap.lt_size ho)
  have I1 : Inv X pins σ H { s with heap := s.heap.push { cls := .type "list_iterator", data := .fields #[.ref p, rawInt 0] } } := I.kept (t' := s.toks) fun b o e => Heap.get?_push_of_some _ e
  have fp := I.fpOk (Nat.le_refl s.heap.objs.size) I.fresh
  refine ⟨_, _, _, its.toArray.size, _, _, fun i => match its[i]? with | some (.bool b) => b | _ => false, rfl, Walks.list (A := X.A.in1) (I.ok.hd hc) s.heap.objs.size p hne its.toArray, ?_, ?_, ?_⟩
  · obtain ⟨o, ho, hc', n, hd⟩ := pl.isList
    exact ⟨⟨_, Heap.get?_push_size _ rfl, rfl, rfl⟩, ⟨o, Heap.get?_push_of_some _ ho, hc', n, hd⟩⟩
  · intro i v s' Q E' hP hQ
    have e1 : its[i]? = some v := by simpa using hP
    have hl := rv.length
    have hi : i < ys.length := by rw [hl]; exact (List.getElem?_eq_some_iff.mp e1).1
    obtain ⟨u, hu, ru⟩ := rv.get (List.getElem?_eq_getElem hi)
    rw [e1] at hu; cases hu
    have hb2 := List.all_eq_true.mp hb _ (List.getElem_mem hi)
    dsimp only at hQ
    rw [e1] at hQ
    revert ru hb2
    generalize ys[i] = y
    intro ru hb2
    cases y with
    | bl b => cases ru; exact wpAny_truthy_bool hQ
    | _ => exact absurd (show false = true from hb2) Bool.false_ne_true
  · intro h' tk k
    have hs : its.toArray.size = ys.length := by rw [List.size_toArray, rv.length]
    obtain ⟨a1, a2⟩ := all_get (ys := ys) (fun i => match its[i]? with | some (.bool b) => b | _ => false) (fun i y hy => by
      obtain ⟨u, hu, ru⟩ := rv.get hy
      have hb2 := List.all_eq_true.mp hb _ (List.mem_of_getElem? hy)
      rw [hu]
      cases y with
      | bl b => cases ru; rfl
      | _ => exact absurd (show false = true from hb2) Bool.false_ne_true)
    rw [hs, a1, a2]
    exact h _ (I1.turned (t' := tk) (fun b o hb' e => k b o (by simpa using hb') e) fp.1 fp.2.1 fp.2.2.2.1 fp.2.2.2.2.1 fp.2.2.2.2.2)
theorem call_all3 (hc : X.calm = true) : CallR X (.builtin "all") (rAll X.K fun ys => ys.all vT) := by
  intro pins s σ H xs us Q I r h
  obtain ⟨p, ys, rfl, hq, hb, q⟩ := h
  obtain ⟨u1, rfl, r1⟩ := r.one
  cases r1
  exact PySem.call_all_walk (all_walk (R := fun a _ s' => EP X pins σ Q (.bool a) s') hc I hq hb fun s' I' => ⟨.bl _, H, I', rfl, q⟩)
theorem fn3_all {K : PySem.W.Frag} : Fn3 K fAll (rAll K fun ys => ys.all vT) := by
  intro ρ S H xs vs v S' Q sim r h p
  unfold fAll at h
  split at h
  · obtain ⟨ys, h1, h⟩ := bnd h
    obtain ⟨hb, e⟩ := ite_some h
    cases e
    obtain ⟨w, rfl, rw'⟩ := r.one
    obtain ⟨a, us, ha, sq, r2⟩ := sim.lstOf h1
    obtain ⟨t1, t2, t3⟩ := vts_ok r2
    cases rw' with
    | ref hn =>
      rw [ha] at hn; cases hn
      exact ⟨_, us, rfl, sq, by rw [t3]; exact hb, by dsimp only; rw [t1]; exact p ρ H _ (Ext.refl ..) sim (.bl _)⟩
  · cases h
theorem boot_all3 : bootBuiltins "all" = some (.builtin "all") := by decide +kernel
variable {a : Expr} {es : List Expr} {mA : AM} {p pos : Pos}
theorem p3_all (hc : X.calm = true) (hg : Gl X "all") (hm : X.mg "all" = none) (ha : PA3 X (a :: es) mA) (he : starEach (a :: es) X.env = (false, eval a X.env) :: starEach es X.env := by rfl) (hpl : (backTo pos (starEach es X.env)).any (·.1) = false := by rfl) : PE3 X (.Call (.Name "all" p) (a :: es) [] pos) (eCall fAll mA) :=
  p3_callB (call_all3 hc) fn3_all hg hm boot_all3 ha (by decide) (by decide) he hpl
end
def dNeg : D → Sto → Option (D × Sto)
  | .int i, S => some (.int (-i), S)
  | _, _ => none
theorem p3_usub {X : Cx} {a : Expr} {ma : EM} {pos : Pos} (ha : PE3 X a ma) : PE3 X (.UnaryOp .USub a pos) (eUn dNeg ma) := PE.imp (pe_un un_neg ha) fun σ H Q ⟨ρ, l, S, v, S', sim, ro, hm, p⟩ => by
  obtain ⟨⟨x, S1⟩, h1, hm⟩ := bnd hm
  refine ⟨ρ, l, S, x, S1, sim, ro, h1, fun ρ1 H1 x' e1 s1 r1 => ?_⟩
  cases r1 with
  | int i => cases hm; exact ⟨i, rfl, p ρ1 H1 _ e1 s1 (.int _)⟩
  | _ => cases hm
end L3
set_option Elab.async false
set_option maxHeartbeats 4000000
namespace L3
open PySem PySem.Spec PyProof.Rows L2
theorem big3 {X : Cx} {pins : List (Addr × Obj)} {σ : St} {H : Hp} {s : Shared} (I : Inv X pins σ H s) : sysModules < s.heap.objs.size := by
  have h : mainGlobals < s.heap.objs.size := (I.mod.glob.keeps I.bk).lt
  exact Nat.lt_trans (by decide) h
section
variable {X : Cx} {pos : Pos}
theorem pe_dict0 : PE X (.Dict [] [] pos) (fun _ H Q => ∀ p, H p = none → Q (.ref p) (upd H p (.dK []))) := fun pins s σ H Q I h =>
  wpAny_Dict_empty ⟨.ref s.heap.objs.size, _, I.laid (a := s.heap.objs.size) (o := .dK []) (t' := s.toks) (fun _ _ q => Heap.get?_push_of_some _ q) (Nat.le_refl _)
    ⟨Nat.zero_le _, beq_eq_false_iff_ne.mpr (Ne.symm (Nat.ne_of_lt (big3 I))), [], .nil, Heap.DictOf.new s.heap⟩, rfl, h _ I.fresh⟩
def eDict0 : EM := fun _ S => some (.ref S.length, S ++ [.dct []])
theorem p3_dict0 : PE3 X (.Dict [] [] pos) eDict0 := PE.imp pe_dict0 fun σ H Q ⟨ρ, l, S, v, S', sim, ro, hm, p⟩ => by
  cases hm
  intro a ha
  exact p (ρ ++ [a]) _ _ (ext_newG ha) (sim.pushG ha ⟨[], upd_same, .nil⟩) (.ref (by rw [← sim.len]; exact get_self ρ a))
theorem pe_dict1 {i : Int} {j : Nat} {p0 : Pos} {e : Expr} {te : TE} (n : Nat) (he : PE X e te) (hte : te = tVar n) :
    PE X (.Dict [some (.Constant (.int i) j p0)] [e] pos) (fun σ H Q => ∃ v, σ[n]? = some (some v) ∧ ∀ p, H p = none → Q (.ref p) (upd H p (.dK [(Sum.inl i, v)]))) := by
  subst hte
  intro pins s σ H Q I ⟨v, hv, q⟩
  have hn := I.fresh
  have I1 := I.laid (a := s.heap.objs.size) (o := .dK []) (h' := s.heap.push { cls := .type "dict", data := .dict #[] }) (t' := s.toks) (fun _ _ q => Heap.get?_push_of_some _ q) (Nat.le_refl _)
    ⟨Nat.zero_le _, beq_eq_false_iff_ne.mpr (Ne.symm (Nat.ne_of_lt (big3 I))), [], .nil, Heap.DictOf.new s.heap⟩
  refine wpAny_Dict_walk (knd := mixKind X.prog X.w) rfl rfl (by simp) (by simp) ?_
  refine pairTrees_cons_walk (wpAny_Constant_int ?_)
  refine thn (he pins _ σ _ (fun x H' => x = v ∧ H' = upd H s.heap.objs.size (.dK [])) (I1.tok _) ⟨v, hv, rfl, rfl⟩) fun u s2 ⟨x, H2, I2, rx, ex, eh⟩ => ?_
  subst ex eh
  refine pairTrees_nil_walk ?_
  obtain ⟨_, hd, vs0, r0, dd⟩ := I2.hok s.heap.objs.size _ upd_same
  cases r0
  refine ⟨[(Sum.inl i, u)], ⟨mixKind_int X.prog X.w i _, rfl, trivial⟩, dd, fun h' dd' hs => ?_⟩
  obtain ⟨o, es, ep, ho, hr⟩ := id dd'
  have I3 := I2.write (x := s.heap.objs.size) (e := s.heap.objs.size) (o := .dK [(Sum.inl i, x)]) (h' := h') (t' := s2.toks + 1) (by rw [upd_same]; exact trivial) (.inl rfl) (fun b o hb e => hs.extBut b o hb e) ⟨o, ho⟩
    ⟨by show 1 ≤ sizeLine; decide, hd, [(Sum.inl i, u)], .cons ⟨rfl, rx⟩ .nil, dd'⟩
  rw [upd_upd] at I3
  exact ⟨.ref s.heap.objs.size, _, I3, rfl, q _ hn⟩
def eDict1 (i : Int) (n : Nat) : EM := fun l S => match l[n]? with
  | some (some d) => some (.ref S.length, S ++ [.dct [(Sum.inl i, d)]])
  | _ => none
theorem p3_dict1 (n : Nat) {i : Int} {j : Nat} {p0 p1 : Pos} {x : Str} (hN : X.N[n]? = some x := by rfl) (hv : Vis X.env.scope x := by first | exact Or.inl rfl | exact Or.inr (Or.inl rfl) | exact Or.inr (Or.inr rfl)) (hd : (x == ("__debug__" : Str)) = false := by decide)
    (hcd : (x == ("__classdict__" : Str)) = false := by decide) : PE3 X (.Dict [some (.Constant (.int i) j p0)] [.Name x p1] pos) (eDict1 i n) := PE.imp (pe_dict1 n (pe_var hN hv hd hcd) rfl) fun σ H Q ⟨ρ, l, S, v, S', sim, ro, hm, p⟩ => by
  unfold eDict1 at hm
  split at hm
  · rename_i d e
    cases hm
    obtain ⟨w, h1, h2⟩ := ro.get n _ e
    refine ⟨w, h1, fun a ha => ?_⟩
    exact p (ρ ++ [a]) _ _ (ext_newG ha) (sim.pushG ha ⟨[w], upd_same, .cons (h2.mono (ext_newG ha)) .nil⟩) (.ref (by rw [← sim.len]; exact get_self ρ a))
  · cases hm
end
def dNeNil : D → D → Sto → Option (D × Sto)
  | .ref n, .ref m, S => match S[n]?, S[m]? with
    | some (.lst xs), some (.lst []) => some (.bl (!xs.isEmpty), S)
    | _, _ => none
  | _, _, _ => none
def rNeNil : R2 := fun x y H Q => ∃ a b xs, x = .ref a ∧ y = .ref b ∧ H a = some (.lst xs) ∧ H b = some (.lst []) ∧ Q (.bl (!xs.isEmpty)) H
section
variable {X : Cx} {a b : Expr} {ma mb : EM} {pos : Pos} {k : Nat}
theorem op_neNil (hr : Room k X.A) : OpR X (compareOp .NotEq) rNeNil := by
  intro pins s σ H x y v u Q I rx ry h
  obtain ⟨a, b, xs, rfl, rfl, ha, hb, q⟩ := h
  cases rx; cases ry
  obtain ⟨z, its, n, r, hl, e⟩ := I.lstM ha
  obtain ⟨z2, its2, n2, r2, hl2, e2⟩ := I.lstM hb
  cases r2
  have hu : X.A.units < cLine := by have := hr.un; omega
  have l1 : s.heap.IsList a its.toArray := ⟨_, e, rfl, n, rfl⟩
  have l2 : s.heap.IsList b ([] : List Value).toArray := ⟨_, e2, rfl, n2, rfl⟩
  cases xs with
  | nil =>
    cases r
    have := SeqAt.RcNeAt.lists (A := X.A) (e := fun _ => true) l1 l2 rfl hu (fun j h1 _ => by simp at h1)
    exact this X.prog X.w X.xe _ ⟨.bl _, H, I, rfl, q⟩
  | cons y ys =>
    cases r with
    | cons r1 r2 =>
      exact SeqAt.RcNeAt.lists_lengths (A := X.A) l1 l2 (by simp) hu X.prog X.w X.xe _ ⟨.bl _, H, I, rfl, q⟩
theorem op3_neNil {K : PySem.W.Frag} : Op3 K dNeNil rNeNil := by
  intro ρ S H x y x' y' v S' Q sim rx ry h p
  unfold dNeNil at h
  split at h
  · split at h
    · rename_i n m S xs e1 e2
      cases h
      obtain ⟨a, us, ha, hH, r2⟩ := sim.lst e1
      obtain ⟨b, ws, hb, hH2, r3⟩ := sim.lst e2
      cases r3
      cases rx with
      | ref hn =>
        rw [ha] at hn; cases hn
        cases ry with
        | ref hm =>
          rw [hb] at hm; cases hm
          refine ⟨a, b, us, rfl, rfl, hH, hH2, ?_⟩
          have : us.isEmpty = xs.isEmpty := by cases r2 <;> rfl
          rw [this]
          exact p ρ H _ (Ext.refl ..) sim (.bl _)
    · cases h
  · cases h
theorem t3_neNil (hr : Room k X.A) (ha : PE3 X a ma) (hb : PE3 X b mb) : PT3 X (.Compare a [.NotEq] [b] pos) (tE (eOp dNeNil ma mb)) := t3_cmp (op_neNil hr) op3_neNil ha hb (nomark b)
end
mutual
def pyT (S : Sto) : Nat → D → Option PyData
  | 0, _ => none
  | _ + 1, .non => some .none
  | _ + 1, .bl b => some (.bool b)
  | _ + 1, .int i => if i.natAbs.log2 < 1920 then some (.int i) else none
  | _ + 1, .str x => some (.str x)
  | k + 1, .tup xs => (pyTs S k xs).bind fun ds => some (.tuple ds)
  | k + 1, .ref n => match S[n]? with
    | some (.dct []) => some (.dict [])
    | some (.dct [(Sum.inl i, d)]) => if i.natAbs.log2 < 1920 then (pyT S k d).bind fun p => some (.dict [(.int i, p)]) else none
    | _ => none
  | _ + 1, .fn _ => none
termination_by k => (k, 0)
def pyTs (S : Sto) : Nat → List D → Option (List PyData)
  | _, [] => some []
  | k, x :: xs => (pyT S k x).bind fun d => (pyTs S k xs).bind fun ds => some (d :: ds)
termination_by k xs => (k, xs.length + 1)
end
mutual
theorem py_agree (S : Sto) : ∀ (k : Nat) (d : D) (p q : PyData), pyT S k d = some p → pyOf S k d = some q → p = q
  | 0, d, p, q, h, _ => by unfold pyT at h; cases h
  | k + 1, .non, p, q, h, h' => by unfold pyT at h; unfold pyOf at h'; cases h; cases h'; rfl
  | k + 1, .bl b, p, q, h, h' => by unfold pyT at h; unfold pyOf at h'; cases h; cases h'; rfl
  | k + 1, .int i, p, q, h, h' => by
    unfold pyT at h; unfold pyOf at h'
    obtain ⟨_, rfl⟩ := ite_some h
    obtain ⟨_, rfl⟩ := ite_some h'
    rfl
  | k + 1, .str x, p, q, h, h' => by unfold pyT at h; unfold pyOf at h'; cases h; cases h'; rfl
  | k + 1, .fn a, p, q, h, h' => by unfold pyT at h; cases h
  | k + 1, .tup xs, p, q, h, h' => by
    unfold pyT at h; unfold pyOf at h'
    obtain ⟨ds, h1, h⟩ := bnd h
    obtain ⟨es, h2, h'⟩ := bnd h'
    cases h; cases h'
    rw [py_agrees S k xs ds es h1 h2]
  | k + 1, .ref n, p, q, h, h' => by
    unfold pyT at h; unfold pyOf at h'
    obtain ⟨xs, h1, h'⟩ := bnd h'
    unfold lstOf at h1
    split at h
    · rename_i e; rw [e] at h1; cases h1
    · rename_i e; rw [e] at h1; cases h1
    · cases h
termination_by k => (k, 0)
theorem py_agrees (S : Sto) : ∀ (k : Nat) (xs : List D) (p q : List PyData), pyTs S k xs = some p → pyAll S k xs = some q → p = q
  | k, [], p, q, h, h' => by unfold pyTs at h; unfold pyAll at h'; cases h; cases h'; rfl
  | k, x :: xs, p, q, h, h' => by
    unfold pyTs at h; unfold pyAll at h'
    obtain ⟨d, h1, h⟩ := bnd h
    obtain ⟨ds, h2, h⟩ := bnd h
    obtain ⟨e, h3, h'⟩ := bnd h'
    obtain ⟨es, h4, h'⟩ := bnd h'
    cases h; cases h'
    rw [py_agree S k x d e h1 h3, py_agrees S k xs ds es h2 h4]
termination_by k xs => (k, xs.length + 1)
end
section
variable {X : Cx} {pins : List (Addr × Obj)} {σ : St} {H : Hp} {s : Shared} {ρ : List Addr} {S : Sto}
mutual
theorem readsT_of (I : Inv X pins σ H s) (sim : Sim X.K ρ S H) : ∀ (k : Nat) (d : D) (v : V) (u : Value) (p : PyData), RD ρ H d v → RelV v u → pyT S k d = some p → (∃ as, Reads s.heap u p as ∧ sysModules ∉ as) ∧ p.showable = true ∧ p.depth ≤ k
  | 0, d, v, u, p, _, _, h => by unfold pyT at h; cases h
  | k + 1, .non, v, u, p, r, e, h => by
    unfold pyT at h; cases h; cases r; cases e
    exact ⟨⟨_, .none, by simp⟩, rfl, Nat.zero_le _⟩
  | k + 1, .bl b, v, u, p, r, e, h => by
    unfold pyT at h; cases h; cases r; cases e
    exact ⟨⟨_, .bool b, by simp⟩, rfl, Nat.zero_le _⟩
  | k + 1, .int i, v, u, p, r, e, h => by
    unfold pyT at h
    obtain ⟨hz, e2⟩ := ite_some h
    cases e2; cases r
    obtain ⟨t, rfl⟩ := e
    exact ⟨⟨_, .int i t, by simp⟩, by unfold PyData.showable; exact decide_eq_true hz, Nat.zero_le _⟩
  | k + 1, .str x, v, u, p, r, e, h => by
    unfold pyT at h; cases h; cases r
    obtain ⟨t, rfl⟩ := e
    exact ⟨⟨_, .str x t, by simp⟩, rfl, Nat.zero_le _⟩
  | k + 1, .fn _, v, u, p, r, e, h => by unfold pyT at h; cases h
  | k + 1, .tup xs, v, u, p, r, e, h => by
    unfold pyT at h
    obtain ⟨ds, h1, h⟩ := bnd h
    cases h
    cases r with
    | tup ha r =>
      cases e
      obtain ⟨its, rv, ⟨o, ho, hc, n, hd⟩, hz⟩ := I.tuple (SqT.of ha)
      obtain ⟨⟨as, h2, hn⟩, h3, h5⟩ := readsTs_of I sim k xs _ _ ds r rv h1
      refine ⟨⟨as, .tuple ho hc hd (by simpa using h2), hn⟩, ?_, ?_⟩
      · unfold PyData.showable; exact h3
      · unfold PyData.depth; omega
  | k + 1, .ref n, v, u, p, r, e, h => by
    unfold pyT at h
    split at h
    · rename_i e0
      cases h
      cases r with
      | @ref _ a hn =>
        cases e
        obtain ⟨vs, hH, r2⟩ := sim.at' n a _ hn e0
        obtain ⟨_, hd, ws, r0, o, es, ep, ho, hx, hdt, _, hp, _⟩ := I.hok a _ hH
        cases r0
        cases hes : es.toList with
        | nil =>
          refine ⟨⟨_, .dict (kvs := []) ho hx.1 hdt (by rw [hes]; exact .nil) (by rw [hes]; exact .nil), ?_⟩, rfl, by unfold PyData.depth PyData.depthKv; omega⟩
          simp only [List.append_nil, List.mem_singleton]
          exact fun z => by subst z; simp at hd
        | cons e1 e2 => rw [hes] at hp; cases hp
    · rename_i i d0 e0
      obtain ⟨hi, h⟩ : i.natAbs.log2 < 1920 ∧ ((pyT S k d0).bind fun p => some (PyData.dict [(.int i, p)])) = some p := by
        by_cases hi : i.natAbs.log2 < 1920
        · rw [if_pos hi] at h; exact ⟨hi, h⟩
        · rw [if_neg hi] at h; cases h
      obtain ⟨p0, h1, h⟩ := bnd h
      cases h
      cases r with
      | @ref _ a hn =>
        cases e
        obtain ⟨vs, hH, r2⟩ := sim.at' n a _ hn e0
        obtain ⟨w, rfl, rw'⟩ := r2.one
        obtain ⟨_, hd, ws, r0, o, es, ep, ho, hx, hdt, _, hp, _⟩ := I.hok a _ hH
        cases r0 with
        | @cons _ q0 _ _ hq t =>
          cases t
          obtain ⟨q1, q2⟩ := q0
          obtain ⟨hq1, hq2⟩ := hq
          cases hes : es.toList with
          | nil => rw [hes] at hp; cases hp
          | cons e1 e2 =>
            rw [hes] at hp
            cases hp with
            | cons hk hval ht =>
              cases ht
              have hq1 : Sum.inl i = q1 := hq1
              subst hq1
              have hval : e1.val = q2 := hval
              obtain ⟨⟨as, k1, k2⟩, k3, k4⟩ := readsT_of I sim k d0 w q2 p0 rw' hq2 h1
              obtain ⟨i', t', e3, e4⟩ | ⟨x', t', e3, e4⟩ := keyIs_shape (show keyIs (Sum.inl i) e1.key = true from hk)
              · cases e3
                refine ⟨⟨_, .dict (kvs := [(.int i, p0)]) ho hx.1 hdt (as := []) (bs := as ++ []) ?_ ?_, ?_⟩, ?_, ?_⟩
                · rw [hes]
                  simp only [List.map_cons, List.map_nil]
                  rw [e4]
                  have := ReadsAll.cons (h := s.heap) (Reads.int i t') ReadsAll.nil
                  simpa using this
                · rw [hes]
                  simp only [List.map_cons, List.map_nil]
                  rw [hval]
                  exact .cons k1 .nil
                · simp only [List.append_nil, List.mem_append, List.mem_cons, List.not_mem_nil, or_false, not_or]
                  exact ⟨fun z => by subst z; simp at hd, k2⟩
                · unfold PyData.showable PyData.showableKv PyData.showableKv
                  rw [k3]
                  have : (PyData.int i).showable = true := by unfold PyData.showable; exact decide_eq_true hi
                  rw [this]; rfl
                · unfold PyData.depth PyData.depthKv PyData.depthKv
                  have : (PyData.int i).depth = 0 := rfl
                  omega
              · cases e3
    · cases h
termination_by k => (k, 0)
theorem readsTs_of (I : Inv X pins σ H s) (sim : Sim X.K ρ S H) : ∀ (k : Nat) (xs : List D) (vs : List V) (us : List Value) (ds : List PyData), RDs ρ H xs vs → Vals vs us → pyTs S k xs = some ds → (∃ as, ReadsAll s.heap us ds as ∧ sysModules ∉ as) ∧ PyData.showableAll ds = true ∧ PyData.depthAll ds ≤ k
  | k, [], vs, us, ds, r, e, h => by
    unfold pyTs at h; cases h; cases r; cases e
    exact ⟨⟨_, .nil, by simp⟩, rfl, Nat.zero_le _⟩
  | k, x :: xs, vs, us, ds, r, e, h => by
    unfold pyTs at h
    obtain ⟨d, h1, h⟩ := bnd h
    obtain ⟨ds', h2, h⟩ := bnd h
    cases h
    cases r with
    | cons r1 r2 =>
      cases e with
      | cons e1 e2 =>
        obtain ⟨⟨as, q1, q5⟩, q2, q4⟩ := readsT_of I sim k x _ _ d r1 e1 h1
        obtain ⟨⟨bs, p1, p5⟩, p2, p4⟩ := readsTs_of I sim k xs _ _ ds' r2 e2 h2
        refine ⟨⟨_, .cons q1 p1, by simp only [List.mem_append, not_or]; exact ⟨q5, p5⟩⟩, ?_, ?_⟩
        · unfold PyData.showableAll; rw [q2, p2]; rfl
        · unfold PyData.depthAll; omega
termination_by k xs => (k, xs.length + 1)
end
end
def fReprT : FM
  | [x], S => (pyT S 140 x).bind fun d => if d.shown.length ≤ sizeLine then some (.str d.shown, S) else none
  | _, _ => none
section
variable {X : Cx} {a : Expr} {es : List Expr} {mA : AM} {pos p : Pos}
theorem call_reprT {k : Nat} (hr : Room k X.A) : CallR X (.builtin "repr") (fun xs H Q => ∃ v ρ S d pd, xs = [v] ∧ Sim X.K ρ S H ∧ RD ρ H d v ∧ pyT S 140 d = some pd ∧ pd.shown.length ≤ sizeLine ∧ Q (.str pd.shown) H) := by
  intro pins s σ H xs us Q I r h
  obtain ⟨v, ρ, S, d, pd, rfl, sim, rd, hp, hz, q⟩ := h
  obtain ⟨u, rfl, ru⟩ := vals1 r
  have key := readsT_of I sim 140 d v u pd rd ru hp
  have byRef : ∀ a, u = .ref a → wpAny (model X.prog X.w) X.A (call (.builtin "repr") [u]) (EP X pins σ Q) X.xe s := fun b hb => by
    subst hb
    obtain ⟨⟨as, h1, hn⟩, h2, h4⟩ := key
    have hu : X.A.units + (pd.depth + 1) < cLine := by have := hr.un; omega
    refine repr_of_reads' h1 h2 (fun _ => hn) hr.gd hu (fun _ _ e => e) (fun h' u tk hk => ?_) hz
    exact ⟨.str pd.shown, H, I.kept hk, ⟨u, rfl⟩, q⟩
  have hp' := hp
  cases rd with
  | non => cases ru; unfold pyT at hp'; cases hp'; exact P.repr_of_none ⟨.str _, H, I.tok _, ⟨_, rfl⟩, q⟩
  | bl b => cases ru; unfold pyT at hp'; cases hp'; exact P.repr_of_bool ⟨.str _, H, I.tok _, ⟨_, by cases b <;> rfl⟩, q⟩
  | int i =>
    obtain ⟨t, rfl⟩ := ru
    unfold pyT at hp'
    obtain ⟨hi, e⟩ := ite_some hp'
    cases e
    exact P.repr_of_int hi ⟨.str _, H, I.tok _, ⟨_, rfl⟩, q⟩
  | str x => obtain ⟨t, rfl⟩ := ru; unfold pyT at hp'; cases hp'; exact P.repr_of_str ⟨.str _, H, I.tok _, ⟨_, rfl⟩, q⟩ hz
  | tup ha r => exact byRef _ ru
  | ref hn => exact byRef _ ru
  | fn b => unfold pyT at hp'; cases hp'
theorem fn3_reprT {K : PySem.W.Frag} : Fn3 K fReprT (fun xs H Q => ∃ v ρ S d pd, xs = [v] ∧ Sim K ρ S H ∧ RD ρ H d v ∧ pyT S 140 d = some pd ∧ pd.shown.length ≤ sizeLine ∧ Q (.str pd.shown) H) := by
  intro ρ S H xs vs v S' Q sim r h p
  unfold fReprT at h
  split at h
  · obtain ⟨pd, h1, h⟩ := bnd h
    obtain ⟨hz, e⟩ := ite_some h
    cases e
    obtain ⟨w, rfl, rw'⟩ := r.one
    exact ⟨w, ρ, _, _, pd, rfl, sim, rw', h1, hz, p ρ H _ (Ext.refl ..) sim (.str _)⟩
  · cases h
theorem CallR.or3 {f : Value} {r r' : List V → Hp → VK → Prop} (h : CallR X f r) (h' : CallR X f r') : CallR X f (fun xs H Q => r xs H Q ∨ r' xs H Q) := by
  intro pins s σ H xs us Q I rr q
  rcases q with q | q
  · exact h pins s σ H xs us Q I rr q
  · exact h' pins s σ H xs us Q I rr q
def fReprD : FM := fun xs S => match fReprT xs S with | some v => some v | none => fRepr xs S
theorem fn3_reprD {K : PySem.W.Frag} {r r' : List V → Hp → VK → Prop} (h : Fn3 K fReprT r) (h' : Fn3 K fRepr r') : Fn3 K fReprD (fun xs H Q => r xs H Q ∨ r' xs H Q) := by
  intro ρ S H xs vs v S' Q sim rr hm p
  unfold fReprD at hm
  cases e : fReprT xs S with
  | some w => rw [e] at hm; cases hm; exact .inl (h ρ S H xs vs _ _ Q sim rr e p)
  | none => rw [e] at hm; exact .inr (h' ρ S H xs vs _ _ Q sim rr hm p)
theorem p3_reprD {k : Nat} (hr : Room k X.A) (hg : Gl X "repr") (hm : X.mg "repr" = none) (ha : PA3 X (a :: es) mA) (he : starEach (a :: es) X.env = (false, eval a X.env) :: starEach es X.env := by rfl) (hpl : (backTo pos (starEach es X.env)).any (·.1) = false := by rfl) : PE3 X (.Call (.Name "repr" p) (a :: es) [] pos) (eCall fReprD mA) :=
  p3_callB (CallR.or3 (call_reprT hr) (call_repr3 hr)) (fn3_reprD fn3_reprT fn3_repr) hg hm boot_repr' ha (by decide) (by decide) he hpl
end
theorem reprD_ok {S : Sto} {x : D} {p : PyData} {Q : D → Sto → Prop} (h : pyOf S 140 x = some p ∨ pyT S 140 x = some p) (hz : p.shown.length ≤ sizeLine) : Wo (fReprD [x] S) Q = Q (.str p.shown) S := by
  have : fReprD [x] S = some (.str p.shown, S) := by
    unfold fReprD
    rcases h with h | h
    · cases e : pyT S 140 x with
      | some q =>
        have := py_agree S 140 x q p e h
        subst this
        have : fReprT [x] S = some (.str q.shown, S) := by unfold fReprT; dsimp only; rw [e]; show (if _ then _ else _) = _; rw [if_pos hz]
        rw [this]
      | none =>
        have : fReprT [x] S = none := by unfold fReprT; dsimp only; rw [e]; rfl
        rw [this]
        unfold fRepr; dsimp only; rw [h]; show (if _ then _ else _) = _; rw [if_pos hz]
    · have : fReprT [x] S = some (.str p.shown, S) := by unfold fReprT; dsimp only; rw [h]; show (if _ then _ else _) = _; rw [if_pos hz]
      rw [this]
  rw [this]; exact wo_some
end L3
section
namespace G
open PySem PySem.Spec PyProof.Rows L2 L3
abbrev bd : List Stmt := PySem.Challenge.pw_opencells_k01_machines_of_anything.main.body
def b_law_is_upto : SM := sRet (eAnd3 (eUn (fIsI "int") (eVar 0)) (eAnd3 (eNot3 (eUn (fIsI "bool") (eVar 0))) (eChain dLe dLe (eC (.int 0)) (eVar 0) (eVar 1))))
def m_law_is_upto : FM := runB 2 b_law_is_upto
def b_law_is_cell : SM := sSeq (sIf (tOr3 (tNot3 (tE (eUn (fIsI "tuple") (eVar 0)))) (tE (eOp dNe (eCall fLen (aCons (eVar 0) (aNil))) (eC (.int 2))))) (sRet (eC (.bl false))) (sNext)) (sSeq (sIf (tAnd3 (tE (eOp dIsNot (eOp dIx (eVar 0) (eC (.int 0))) (eC .non))) (tNot3 (tE (eCall m_law_is_upto (aCons (eOp dIx (eVar 0) (eC (.int 0))) (aCons (eOp dSub (eVar 1) (eC (.int 1))) (aNil))))))) (sRet (eC (.bl false))) (sNext)) (sRet (eOr3 (eOp dIs (eOp dIx (eVar 0) (eC (.int 1))) (eC .non)) (eCall m_law_is_upto (aCons (eOp dIx (eVar 0) (eC (.int 1))) (aCons (eC (.int 7)) (aNil)))))))
def m_law_is_cell : FM := runB 2 b_law_is_cell
def b_law_due : SM := sSeq (sIf (tOr3 (tNot3 (tE (eUn (fIsI "tuple") (eVar 0)))) (tOr3 (tE (eOp dNe (eCall fLen (aCons (eVar 0) (aNil))) (eC (.int 2)))) (tOr3 (tNot3 (tE (eCall m_law_is_upto (aCons (eOp dIx (eVar 0) (eC (.int 0))) (aCons (eC (.int 4)) (aNil)))))) (tE (eOp dLt (eOp dIx (eVar 0) (eC (.int 0))) (eC (.int 1))))))) (sRet (eC (.bl false))) (sNext)) (sSeq (sIf (tOr3 (tNot3 (tE (eUn (fIsI "tuple") (eOp dIx (eVar 0) (eC (.int 1)))))) (tNot3 (tE (eChain dLe dLe (eC (.int 1)) (eCall fLen (aCons (eOp dIx (eVar 0) (eC (.int 1))) (aNil))) (eC (.int 24)))))) (sRet (eC (.bl false))) (sNext)) (sSeq (sFor (eOp dIx (eVar 0) (eC (.int 1))) (gName3 1) (sSeq (sIf (tOr3 (tNot3 (tE (eUn (fIsI "tuple") (eVar 1)))) (tE (eOp dNe (eCall fLen (aCons (eVar 1) (aNil))) (eOp dIx (eVar 0) (eC (.int 0)))))) (sRet (eC (.bl false))) (sNext)) (sIf (tE (eOp dNeNil (eComp (iVal (eVar 1)) [none, some 0] (gName3 0) (tNot3 (tE (eCall m_law_is_cell (aCons (eVar 0) (aCons (eCall fLen (aCons (eOp dIx (eVar 1) (eC (.int 1))) (aNil))) (aNil)))))) (eVar 0)) (eCall fLst (aNil)))) (sRet (eC (.bl false))) (sNext)))) (sRet (eC (.bl true)))))
def m_law_due : FM := runB 2 b_law_due
def b_is_below : SM := sRet (eAnd3 (eUn (fIsI "int") (eVar 0)) (eAnd3 (eNot3 (eUn (fIsI "bool") (eVar 0))) (eChain dLe dLt (eC (.int 0)) (eVar 0) (eVar 1))))
def m_is_below : FM := runB 2 b_is_below
def b_is_cell : SM := sSeq (sIf (tOr3 (tNot3 (tE (eUn (fIsI "tuple") (eVar 0)))) (tE (eOp dNe (eCall fLen (aCons (eVar 0) (aNil))) (eC (.int 2))))) (sRet (eC (.bl false))) (sNext)) (sSeq (sAsg (eVar 0) (gTup3 2 (gCons3 (gName3 2) (gCons3 (gName3 3) (gNil3))))) (sRet (eAnd3 (eOr3 (eOp dIs (eVar 2) (eC .non)) (eCall m_is_below (aCons (eVar 2) (aCons (eVar 1) (aNil))))) (eOr3 (eOp dIs (eVar 3) (eC .non)) (eCall m_is_below (aCons (eVar 3) (aCons (eC (.int 8)) (aNil))))))))
def m_is_cell : FM := runB 4 b_is_cell
def b_is_room : SM := sSeq (sIf (tOr3 (tNot3 (tE (eUn (fIsI "tuple") (eVar 0)))) (tE (eOp dNe (eCall fLen (aCons (eVar 0) (aNil))) (eVar 1)))) (sRet (eC (.bl false))) (sNext)) (sRet (eCall fAll (aCons (eComp (iVal (eVar 0)) [none, some 2] (gName3 0) (tTrue) (eCall m_is_cell (aCons (eVar 0) (aCons (eVar 1) (aNil))))) (aNil))))
def m_is_room : FM := runB 3 b_is_room
def b_is_machine : SM := sSeq (sIf (tOr3 (tNot3 (tE (eUn (fIsI "tuple") (eVar 0)))) (tE (eOp dNe (eCall fLen (aCons (eVar 0) (aNil))) (eC (.int 2))))) (sRet (eC (.bl false))) (sNext)) (sSeq (sAsg (eVar 0) (gTup3 2 (gCons3 (gName3 1) (gCons3 (gName3 2) (gNil3))))) (sSeq (sIf (tOr3 (tNot3 (tE (eCall m_is_below (aCons (eVar 1) (aCons (eOp dPlus (eC (.int 4)) (eC (.int 1))) (aNil)))))) (tE (eOp dEq (eVar 1) (eC (.int 0))))) (sRet (eC (.bl false))) (sNext)) (sSeq (sIf (tOr3 (tNot3 (tE (eUn (fIsI "tuple") (eVar 2)))) (tNot3 (tE (eChain dLe dLe (eC (.int 1)) (eCall fLen (aCons (eVar 2) (aNil))) (eC (.int 24)))))) (sRet (eC (.bl false))) (sNext)) (sRet (eCall fAll (aCons (eComp (iVal (eVar 2)) [none, some 1, some 2] (gName3 0) (tTrue) (eCall m_is_room (aCons (eVar 0) (aCons (eVar 1) (aCons (eCall fLen (aCons (eVar 2) (aNil))) (aNil)))))) (aNil)))))))
def m_is_machine : FM := runB 3 b_is_machine
def b_law_right : SM := sSeq (sAsg (eCall fReprD (aCons (eVar 0) (aNil))) (gName3 1)) (sSeq (sAsg (eCall m_is_machine (aCons (eVar 0) (aNil))) (gName3 2)) (sRet (eAnd3 (eUn (fIsI "bool") (eVar 2)) (eAnd3 (eOp dEq (eVar 2) (eCall m_law_due (aCons (eVar 0) (aNil)))) (eOp dEq (eCall fReprD (aCons (eVar 0) (aNil))) (eVar 1))))))
def m_law_right : FM := runB 3 b_law_right
def b_law_take : SM := sSeq (sIf (tE (eOp dGt (eOp dIx (eVar 0) (eC (.int 2))) (eC (.int 0)))) (sSeq (sAsg (eOp dMod (eOp dIx (eVar 0) (eC (.int 2))) (eVar 1)) (gName3 2)) (sSeq (sAsg (eOp dDiv (eOp dIx (eVar 0) (eC (.int 2))) (eVar 1)) (gSub3 (eVar 0) (eC (.int 2)))) (sRet (eVar 2)))) (sNext)) (sSeq (sAsg (eOp dIx (eVar 0) (eC (.int 1))) (gName3 3)) (sSeq (sAsg (eOp dPlus (eVar 3) (eC (.int 1))) (gSub3 (eVar 0) (eC (.int 1)))) (sSeq (sAsg (eC (.int 7)) (gName3 4)) (sSeq (sIf (tE (eOp dGt (eCall fLen (aCons (eOp dIx (eVar 0) (eC (.int 0))) (aNil))) (eC (.int 0)))) (sAsg (eOp dIx (eOp dIx (eVar 0) (eC (.int 0))) (eOp dMod (eVar 3) (eCall fLen (aCons (eOp dIx (eVar 0) (eC (.int 0))) (aNil))))) (gName3 4)) (sNext)) (sSeq (sIf (tAnd3 (tE (eOp dLt (eVar 3) (eCall fLen (aCons (eOp dIx (eVar 0) (eC (.int 0))) (aNil))))) (tE (eOp dGe (eCall fAbs (aCons (eVar 4) (aNil))) (eOp dPow (eC (.int 10)) (eC (.int 18)))))) (sSeq (sAsg (eOp dDiv (eCall fAbs (aCons (eVar 4) (aNil))) (eVar 1)) (gSub3 (eVar 0) (eC (.int 2)))) (sRet (eOp dMod (eCall fAbs (aCons (eVar 4) (aNil))) (eVar 1)))) (sNext)) (sSeq (sAsg (eCall fLst (aCons (eC (.int 2147483647)) (aCons (eC (.int 2147483629)) (aCons (eC (.int 2147483587)) (aCons (eC (.int 2147483579)) (aCons (eC (.int 2147483563)) (aCons (eC (.int 2147483549)) (aCons (eC (.int 2147483543)) (aNil))))))))) (gName3 5)) (sSeq (sAsg (eOp dIx (eVar 5) (eOp dMod (eVar 3) (eC (.int 7)))) (gName3 6)) (sSeq (sAsg (eOp dMod (eOp dPlus (eOp dPlus (eOp dTimes (eOp dMod (eVar 4) (eVar 6)) (eC (.int 48271))) (eOp dTimes (eC (.int 40009)) (eVar 3))) (eC (.int 21))) (eVar 6)) (gName3 7)) (sSeq (sAsg (eOp dMod (eOp dPlus (eOp dPlus (eOp dTimes (eOp dPow (eVar 7) (eC (.int 3))) (eC (.int 69621))) (eOp dTimes (eVar 3) (eVar 3))) (eC (.int 5))) (eOp dIx (eVar 5) (eOp dMod (eOp dPlus (eVar 3) (eC (.int 3))) (eC (.int 7))))) (gName3 7)) (sRet (eOp dMod (eOp dDiv (eVar 7) (eC (.int 64))) (eVar 1))))))))))))
def m_law_take : FM := runB 8 b_law_take
def b_law_deep : SM := sSeq (sAsg (eC .non) (gName3 1)) (sSeq (sForR (rng1 (aCons (eOp dIx (eCall fLst (aCons (eC (.int 3)) (aCons (eC (.int 30)) (aCons (eC (.int 110)) (aNil))))) (eCall m_law_take (aCons (eVar 0) (aCons (eC (.int 3)) (aNil))))) (aNil))) (gName3 2) (sAsg (eOp dIx (eCall fLst (aCons (eCall fLst (aCons (eVar 1) (aNil))) (aCons (eCall fTup (aCons (eVar 1) (aNil))) (aNil)))) (eCall m_law_take (aCons (eVar 0) (aCons (eC (.int 2)) (aNil))))) (gName3 1))) (sRet (eVar 1)))
def m_law_deep : FM := runB 3 b_law_deep
def b_law_put : SM := sRet (eOp dPlus (eOp dPlus (eSl (eVar 0) (oNone) (oSome (eVar 1))) (eCall fTup (aCons (eVar 2) (aNil)))) (eSl (eVar 0) (oSome (eOp dPlus (eVar 1) (eC (.int 1)))) (oNone)))
def m_law_put : FM := runB 3 b_law_put
def b_law_other : SM := sSeq (sAsg (eCall m_law_take (aCons (eVar 0) (aCons (eC (.int 24)) (aNil)))) (gName3 3)) (sSeq (sIf (tE (eOp dEq (eVar 3) (eC (.int 23)))) (sRet (eCall m_law_deep (aCons (eVar 0) (aNil)))) (sNext)) (sSeq (sAsg (eCall fLst (aCons (eC .non) (aCons (eC (.bl true)) (aCons (eC (.bl false)) (aCons (eUn dNeg (eC (.int 1))) (aCons (eVar 2) (aCons (eOp dPlus (eVar 2) (eC (.int 1))) (aCons (eC (.int 0)) (aCons (eOp dPow (eC (.int 10)) (eC (.int 29))) (aCons (eUn dNeg (eOp dPow (eC (.int 10)) (eC (.int 29)))) (aCons (eC (.str "0")) (aCons (eC (.str "")) (aCons (eCall fLst (aNil)) (aCons (eCall fTup (aNil)) (aCons (eDict0) (aCons (eCall fLst (aCons (eVar 1) (aNil))) (aCons (eCall fTup (aCons (eVar 1) (aNil))) (aNil)))))))))))))))))) (gName3 4)) (sSeq (sAsg (eOp dPlus (eVar 4) (eCall fLst (aCons (eDict1 0 1) (aCons (eC (.str "None")) (aCons (eCall fLst (aCons (eC (.int 0)) (aNil))) (aCons (eCall fTup (aCons (eC .non) (aCons (eC .non) (aNil)))) (aCons (eCall fTup (aCons (eC (.int 0)) (aCons (eC (.int 0)) (aCons (eC (.int 0)) (aNil))))) (aCons (eOp dSub (eVar 2) (eC (.int 1))) (aCons (eC (.int 1)) (aNil)))))))))) (gName3 4)) (sRet (eOp dIx (eVar 4) (eVar 3))))))
def m_law_other : FM := runB 5 b_law_other
def b_law_row_bent : SM := sSeq (sAsg (eCall m_law_take (aCons (eVar 0) (aCons (eCall fLen (aCons (eVar 1) (aNil))) (aNil)))) (gName3 2)) (sSeq (sAsg (eOp dPlus (eOp dPlus (eSl (eVar 1) (oNone) (oSome (eVar 2))) (eSl (eVar 1) (oSome (eVar 2)) (oSome (eOp dPlus (eVar 2) (eC (.int 1)))))) (eSl (eVar 1) (oSome (eVar 2)) (oNone))) (gName3 3)) (sRet (eOp dIx (eCall fLst (aCons (eCall fList (aCons (eVar 1) (aNil))) (aCons (eSl (eVar 1) (oSome (eC (.int 1))) (oNone)) (aCons (eOp dPlus (eVar 1) (eSl (eVar 1) (oSome (eVar 2)) (oSome (eOp dPlus (eVar 2) (eC (.int 1)))))) (aCons (eVar 3) (aCons (eCall fTup (aNil)) (aNil))))))) (eCall m_law_take (aCons (eVar 0) (aCons (eC (.int 5)) (aNil)))))))
def m_law_row_bent : FM := runB 4 b_law_row_bent
def b_law_bent : SM := sSeq (sAsg (eCall m_law_take (aCons (eVar 0) (aCons (eC (.int 9)) (aNil)))) (gName3 2)) (sSeq (sAsg (eVar 1) (gTup3 2 (gCons3 (gName3 3) (gCons3 (gName3 4) (gNil3))))) (sSeq (sAsg (eCall m_law_take (aCons (eVar 0) (aCons (eCall fLen (aCons (eVar 4) (aNil))) (aNil)))) (gName3 5)) (sSeq (sAsg (eCall m_law_take (aCons (eVar 0) (aCons (eVar 3) (aNil)))) (gName3 6)) (sSeq (sAsg (eOp dIx (eOp dIx (eVar 4) (eVar 5)) (eVar 6)) (gTup3 2 (gCons3 (gName3 7) (gCons3 (gName3 8) (gNil3))))) (sSeq (sIf (tE (eOp dEq (eVar 2) (eC (.int 0)))) (sRet (eCall m_law_put (aCons (eVar 1) (aCons (eC (.int 0)) (aCons (eCall m_law_other (aCons (eVar 0) (aCons (eVar 3) (aCons (eC (.int 5)) (aNil))))) (aNil)))))) (sNext)) (sSeq (sIf (tE (eOp dEq (eVar 2) (eC (.int 1)))) (sRet (eCall m_law_put (aCons (eVar 1) (aCons (eC (.int 1)) (aCons (eCall m_law_other (aCons (eVar 0) (aCons (eVar 4) (aCons (eC (.int 24)) (aNil))))) (aNil)))))) (sNext)) (sSeq (sIf (tE (eOp dEq (eVar 2) (eC (.int 2)))) (sSeq (sAsg (eCall m_law_other (aCons (eVar 0) (aCons (eVar 1) (aCons (eC (.int 2)) (aNil))))) (gName3 9)) (sRet (eOp dIx (eCall fLst (aCons (eCall fList (aCons (eVar 1) (aNil))) (aCons (eSl (eVar 1) (oNone) (oSome (eC (.int 1)))) (aCons (eOp dPlus (eVar 1) (eCall fTup (aCons (eC (.int 0)) (aNil)))) (aCons (eCall fTup (aCons (eVar 4) (aCons (eVar 3) (aNil)))) (aCons (eVar 9) (aNil))))))) (eCall m_law_take (aCons (eVar 0) (aCons (eC (.int 5)) (aNil))))))) (sNext)) (sSeq (sIf (tE (eOp dEq (eVar 2) (eC (.int 3)))) (sRet (eCall fTup (aCons (eVar 3) (aCons (eCall m_law_row_bent (aCons (eVar 0) (aCons (eVar 4) (aNil)))) (aNil))))) (sNext)) (sSeq (sIf (tE (eOp dEq (eVar 2) (eC (.int 4)))) (sRet (eCall fTup (aCons (eVar 3) (aCons (eOp dTimes (eCall fTup (aCons (eOp dIx (eVar 4) (eC (.int 0))) (aNil))) (eOp dIx (eCall fLst (aCons (eC (.int 24)) (aCons (eC (.int 25)) (aCons (eC (.int 23)) (aCons (eC (.int 26)) (aNil)))))) (eCall m_law_take (aCons (eVar 0) (aCons (eC (.int 4)) (aNil)))))) (aNil))))) (sNext)) (sSeq (sIf (tE (eOp dEq (eVar 2) (eC (.int 5)))) (sSeq (sAsg (eOp dIx (eCall fLst (aCons (eCall m_law_row_bent (aCons (eVar 0) (aCons (eOp dIx (eVar 4) (eVar 5)) (aNil)))) (aCons (eCall m_law_other (aCons (eVar 0) (aCons (eOp dIx (eVar 4) (eVar 5)) (aCons (eC (.int 2)) (aNil))))) (aNil)))) (eCall m_law_take (aCons (eVar 0) (aCons (eC (.int 2)) (aNil))))) (gName3 10)) (sRet (eCall fTup (aCons (eVar 3) (aCons (eCall m_law_put (aCons (eVar 4) (aCons (eVar 5) (aCons (eVar 10) (aNil))))) (aNil)))))) (sNext)) (sSeq (sAsg (eOp dIx (eCall fLst (aCons (eCall fTup (aCons (eCall m_law_other (aCons (eVar 0) (aCons (eVar 7) (aCons (eCall fLen (aCons (eVar 4) (aNil))) (aNil))))) (aCons (eVar 8) (aNil)))) (aCons (eCall fTup (aCons (eVar 7) (aCons (eCall m_law_other (aCons (eVar 0) (aCons (eVar 8) (aCons (eC (.int 8)) (aNil))))) (aNil)))) (aCons (eC .non) (aNil))))) (eOp dSub (eVar 2) (eC (.int 6)))) (gName3 11)) (sSeq (sIf (tE (eOp dEq (eVar 2) (eC (.int 8)))) (sAsg (eOp dIx (eCall fLst (aCons (eCall fLst (aCons (eVar 7) (aCons (eVar 8) (aNil)))) (aCons (eCall fTup (aCons (eVar 7) (aNil))) (aCons (eCall fTup (aCons (eVar 7) (aCons (eVar 8) (aCons (eC .non) (aNil))))) (aCons (eCall m_law_other (aCons (eVar 0) (aCons (eCall fTup (aCons (eVar 7) (aCons (eVar 8) (aNil)))) (aCons (eC (.int 2)) (aNil))))) (aNil)))))) (eCall m_law_take (aCons (eVar 0) (aCons (eC (.int 4)) (aNil))))) (gName3 11)) (sNext)) (sRet (eCall fTup (aCons (eVar 3) (aCons (eCall m_law_put (aCons (eVar 4) (aCons (eVar 5) (aCons (eCall m_law_put (aCons (eOp dIx (eVar 4) (eVar 5)) (aCons (eVar 6) (aCons (eVar 11) (aNil))))) (aNil))))) (aNil)))))))))))))))))
def m_law_bent : FM := runB 12 b_law_bent
def b_law_near : SM := sSeq (sAsg (eCall fLst (aNil)) (gName3 4)) (sSeq (sFor (eVar 1) (gName3 5) (sSeq (sAsg (eCall m_law_take (aCons (eVar 0) (aCons (eC (.int 8)) (aNil)))) (gName3 6)) (sSeq (sAsg (eVar 5) (gTup3 2 (gCons3 (gName3 7) (gCons3 (gName3 8) (gNil3))))) (sSeq (sIf (tE (eOp dEq (eVar 6) (eC (.int 0)))) (sAsg (eC .non) (gName3 7)) (sNext)) (sSeq (sIf (tE (eOp dEq (eVar 6) (eC (.int 1)))) (sAsg (eC .non) (gName3 8)) (sNext)) (sSeq (sIf (tE (eOp dEq (eVar 6) (eC (.int 2)))) (sAsg (eCall m_law_take (aCons (eVar 0) (aCons (eVar 2) (aNil)))) (gName3 7)) (sNext)) (sSeq (sIf (tE (eOp dEq (eVar 6) (eC (.int 3)))) (sAsg (eCall m_law_take (aCons (eVar 0) (aCons (eVar 3) (aNil)))) (gName3 8)) (sNext)) (sDrop (eMethL mAppend (eVar 4) (aCons (eCall fTup (aCons (eVar 7) (aCons (eVar 8) (aNil)))) aNil)))))))))) (sRet (eCall fTuple (aCons (eVar 4) (aNil)))))
def m_law_near : FM := runB 9 b_law_near
def b_law_cell : SM := sSeq (sAsg (eC .non) (gName3 4)) (sSeq (sIf (tE (eOp dGe (eCall m_law_take (aCons (eVar 0) (aCons (eC (.int 8)) (aNil)))) (eVar 2))) (sAsg (eCall m_law_take (aCons (eVar 0) (aCons (eVar 1) (aNil)))) (gName3 4)) (sNext)) (sSeq (sAsg (eC .non) (gName3 5)) (sSeq (sIf (tE (eOp dGe (eCall m_law_take (aCons (eVar 0) (aCons (eC (.int 8)) (aNil)))) (eVar 2))) (sAsg (eCall m_law_take (aCons (eVar 0) (aCons (eVar 3) (aNil)))) (gName3 5)) (sNext)) (sRet (eCall fTup (aCons (eVar 4) (aCons (eVar 5) (aNil))))))))
def m_law_cell : FM := runB 6 b_law_cell
def b_law_machine : SM := sSeq (sAsg (eCall m_law_take (aCons (eVar 0) (aCons (eC (.int 3)) (aNil)))) (gName3 2)) (sSeq (sAsg (eOp dIx (eCall fLst (aCons (eC (.int 0)) (aCons (eC (.int 1)) (aCons (eC (.int 2)) (aCons (eC (.int 5)) (aNil)))))) (eCall m_law_take (aCons (eVar 0) (aCons (eC (.int 4)) (aNil))))) (gName3 3)) (sSeq (sAsg (eOp dIx (eCall fLst (aCons (eC (.int 1)) (aCons (eC (.int 2)) (aCons (eC (.int 3)) (aCons (eC (.int 8)) (aNil)))))) (eCall m_law_take (aCons (eVar 0) (aCons (eC (.int 4)) (aNil))))) (gName3 4)) (sSeq (sAsg (eOp dPlus (eC (.int 1)) (eCall m_law_take (aCons (eVar 0) (aCons (eC (.int 4)) (aNil))))) (gName3 5)) (sSeq (sAsg (eOp dPlus (eC (.int 1)) (eCall m_law_take (aCons (eVar 0) (aCons (eVar 1) (aNil))))) (gName3 6)) (sSeq (sAsg (eCall fLst (aNil)) (gName3 7)) (sSeq (sForR (rng1 (aCons (eVar 6) (aNil))) (gName3 8) (sIf (tAnd3 (tE (eOp dGt (eVar 8) (eC (.int 0)))) (tAnd3 (tE (eOp dGt (eVar 2) (eC (.int 0)))) (tE (eOp dGt (eCall m_law_take (aCons (eVar 0) (aCons (eC (.int 3)) (aNil)))) (eC (.int 0)))))) (sDrop (eMethL mAppend (eVar 7) (aCons (eCall m_law_near (aCons (eVar 0) (aCons (eOp dIx (eVar 7) (eCall m_law_take (aCons (eVar 0) (aCons (eVar 8) (aNil))))) (aCons (eVar 6) (aCons (eVar 4) (aNil)))))) aNil))) (sDrop (eMethL mAppend (eVar 7) (aCons (eCall fTuple (aCons (eComp (iRng (rng1 (aCons (eVar 5) (aNil)))) [none, some 0, some 6, some 3, some 4] (gName3 0) (tTrue) (eCall m_law_cell (aCons (eVar 1) (aCons (eVar 2) (aCons (eVar 3) (aCons (eVar 4) (aNil))))))) (aNil))) aNil))))) (sRet (eCall fTup (aCons (eVar 5) (aCons (eCall fTuple (aCons (eVar 7) (aNil))) (aNil)))))))))))
def m_law_machine : FM := runB 9 b_law_machine
def b_law : SM := sSeq (sAsg (eCall fLst (aCons (eVar 0) (aCons (eC (.int 0)) (aCons (eC (.int 0)) (aNil))))) (gName3 1)) (sSeq (sForR (rng1 (aCons (eC (.int 2)) (aNil))) (gName3 2) (sSeq (sAsg (eCall m_law_machine (aCons (eVar 1) (aCons (eOp dIx (eCall fLst (aCons (eC (.int 4)) (aCons (eC (.int 24)) (aNil)))) (eVar 2)) (aNil)))) (gName3 3)) (sSeq (sIf (tE (eOp dIsNotB (eCall m_is_machine (aCons (eVar 3) (aNil))) (eC (.bl true)))) (sRet (eC (.bl false))) (sNext)) (sSeq (sFor (eCall fTup (aCons (eC (.int 4)) (aCons (eC (.int 5)) (aCons (eC (.int 6)) (aNil))))) (gName3 4) (sSeq (sAsg (eCall fTuple (aCons (eComp (iVal (eOp dIx (eVar 3) (eC (.int 1)))) [none, some 4] (gName3 0) (tTrue) (eSl (eOp dTimes (eVar 0) (eC (.int 6))) (oNone) (oSome (eVar 1)))) (aNil))) (gName3 5)) (sIf (tOr3 (tNot3 (tE (eCall m_law_right (aCons (eCall fTup (aCons (eVar 4) (aCons (eVar 5) (aNil)))) (aNil))))) (tE (eOp dNe (eCall m_law_due (aCons (eCall fTup (aCons (eVar 4) (aCons (eVar 5) (aNil)))) (aNil))) (eOp dEq (eVar 4) (eC (.int 4)))))) (sRet (eC (.bl false))) (sNext)))) (sForR (rng1 (aCons (eC (.int 4)) (aNil))) (gName3 6) (sIf (tOr3 (tNot3 (tE (eCall m_law_right (aCons (eCall m_law_bent (aCons (eVar 1) (aCons (eVar 3) (aNil)))) (aNil))))) (tNot3 (tE (eCall m_law_right (aCons (eVar 3) (aNil)))))) (sRet (eC (.bl false))) (sNext))))))) (sSeq (sAsg (eCall fLst (aCons (eC .non) (aCons (eC (.bl true)) (aCons (eC (.int 0)) (aCons (eC (.int 7)) (aCons (eC (.str "")) (aCons (eC (.str "machine")) (aCons (eCall fLst (aNil)) (aCons (eCall fTup (aNil)) (aCons (eDict0) (aCons (eCall fTup (aCons (eC (.int 1)) (aNil))) (aCons (eCall fTup (aCons (eC (.int 1)) (aCons (eCall fTup (aNil)) (aNil)))) (aCons (eCall fTup (aCons (eC (.int 1)) (aCons (eCall fTup (aCons (eCall fTup (aCons (eCall fTup (aCons (eC .non) (aCons (eC .non) (aNil)))) (aNil))) (aNil))) (aNil)))) (aCons (eCall fTup (aCons (eC (.int 0)) (aCons (eCall fTup (aCons (eCall fTup (aNil)) (aNil))) (aNil)))) (aCons (eCall fLst (aCons (eC (.int 1)) (aCons (eC (.int 2)) (aNil)))) (aNil)))))))))))))))) (gName3 7)) (sSeq (sFor (eVar 7) (gName3 8) (sIf (tNot3 (tE (eCall m_law_right (aCons (eVar 8) (aNil))))) (sRet (eC (.bl false))) (sNext))) (sRet (eCall m_law_right (aCons (eCall m_law_deep (aCons (eVar 1) (aNil))) (aNil)))))))
def m_law : FM := runB 9 b_law
section
variable {P : Program} {w : World} {K : PySem.W.Frag} {mg : Str → Option Value} {base : Heap}
theorem sc_law_is_upto : FnScope ["_law_thing", "_law_most"] ["_law_thing", "_law_most"] (defScope (top bd 13)) := ⟨rfl, rfl, rfl, by decide +kernel, rfl, by decide +kernel, by decide +kernel⟩
theorem h_m_law_is_upto {f : Addr} {fd : FuncData} (F : Fun K "_law_is_upto" "_law_is_upto" (top bd 13) f fd) (hm : mg "_law_is_upto" = some (.ref f)) (z_isinstance : mg "isinstance" = none) (z_int : mg "int" = none) (z_bool : mg "bool" = none) : Has P w K mg base "_law_is_upto" 1 2 m_law_is_upto := by
  have sc := sc_law_is_upto
  refine has_of (k := 0) F hm sc rfl (F.binds fun _ _ _ _ _ _ us hl => match us, hl with | [_, _], _ => rfl) fun cdv hcd A outer s H E hr => ?_
  exact ss3_one (s3_ret (p3_and (p3_isinst (U := "int") rfl z_isinstance rfl z_int boot_int' (by decide) (p3_var 0)) (p3_and (p3_not (p3_isinst (U := "bool") rfl z_isinstance rfl z_bool boot_bool' (by decide) (p3_var 0))) (p3_one (p3_chain op_le op_le (op3_I0 fun _ _ _ _ => .bl _) (op3_I0 fun _ _ _ _ => .bl _) (p3_int) (p3_var 0) (p3_var 1))))))
theorem sc_law_is_cell : FnScope ["_law_thing", "_law_many"] ["_law_thing", "_law_many"] (defScope (top bd 14)) := ⟨rfl, rfl, rfl, by decide +kernel, rfl, by decide +kernel, by decide +kernel⟩
theorem h_m_law_is_cell {f : Addr} {fd : FuncData} (F : Fun K "_law_is_cell" "_law_is_cell" (top bd 14) f fd) (hm : mg "_law_is_cell" = some (.ref f)) (z_isinstance : mg "isinstance" = none) (z_tuple : mg "tuple" = none) (z_len : mg "len" = none) (h_m_law_is_upto : Has P w K mg base "_law_is_upto" 1 2 m_law_is_upto) : Has P w K mg base "_law_is_cell" 2 2 m_law_is_cell := by
  have sc := sc_law_is_cell
  refine has_of (k := 1) F hm sc rfl (F.binds fun _ _ _ _ _ _ us hl => match us, hl with | [_, _], _ => rfl) fun cdv hcd A outer s H E hr => ?_
  exact ss3_cons (s3_if (t3_w (w3_or (t3_not (t3_val (p3_isinst (U := "tuple") rfl z_isinstance rfl z_tuple boot_tuple' (by decide) (p3_var 0)))) (w3_or1 (t3_ne (p3_len rfl z_len (a3_cons (p3_var 0) (a3_nil))) (p3_int))))) (ss3_one (s3_ret (p3_bl))) (ss3_nil)) (ss3_cons (s3_if (t3_w (w3_and (t3_isnot (p3_ix (p3_var 0) (p3_int)) (p3_non)) (w3_and1 (t3_not (t3_val (p3_fn h_m_law_is_upto hr (by decide) rfl (a3_cons (p3_ix (p3_var 0) (p3_int)) (a3_cons (p3_sub (p3_var 1) (p3_int)) (a3_nil))) (len_cons (len_cons len_nil)))))))) (ss3_one (s3_ret (p3_bl))) (ss3_nil)) (ss3_one (s3_ret (p3_or (p3_is (p3_ix (p3_var 0) (p3_int)) (p3_non)) (p3_one (p3_fn h_m_law_is_upto hr (by decide) rfl (a3_cons (p3_ix (p3_var 0) (p3_int)) (a3_cons (p3_int) (a3_nil))) (len_cons (len_cons len_nil))))))))
theorem sc_law_due : FnScope ["_law_thing", "_law_room"] ["_law_thing"] (defScope (top bd 15)) := ⟨rfl, rfl, rfl, by decide +kernel, rfl, by decide +kernel, by decide +kernel⟩
theorem h_m_law_due {f : Addr} {fd : FuncData} (F : Fun K "_law_due" "_law_due" (top bd 15) f fd) (hm : mg "_law_due" = some (.ref f)) (z_len : mg "len" = none) (z_isinstance : mg "isinstance" = none) (z_tuple : mg "tuple" = none) (h_m_law_is_cell : Has P w K mg base "_law_is_cell" 2 2 m_law_is_cell) (h_m_law_is_upto : Has P w K mg base "_law_is_upto" 1 2 m_law_is_upto) : Has P w K mg base "_law_due" 3 1 m_law_due := by
  have sc := sc_law_due
  refine has_of (k := 2) F hm sc rfl (F.binds fun _ _ _ _ _ _ us hl => match us, hl with | [_], _ => rfl) fun cdv hcd A outer s H E hr => ?_
  exact ss3_cons (s3_if (t3_w (w3_or (t3_not (t3_val (p3_isinst (U := "tuple") rfl z_isinstance rfl z_tuple boot_tuple' (by decide) (p3_var 0)))) (w3_or (t3_ne (p3_len rfl z_len (a3_cons (p3_var 0) (a3_nil))) (p3_int)) (w3_or (t3_not (t3_val (p3_fn h_m_law_is_upto hr (by decide) rfl (a3_cons (p3_ix (p3_var 0) (p3_int)) (a3_cons (p3_int) (a3_nil))) (len_cons (len_cons len_nil))))) (w3_or1 (t3_lt (p3_ix (p3_var 0) (p3_int)) (p3_int))))))) (ss3_one (s3_ret (p3_bl))) (ss3_nil)) (ss3_cons (s3_if (t3_w (w3_or (t3_not (t3_val (p3_isinst (U := "tuple") rfl z_isinstance rfl z_tuple boot_tuple' (by decide) (p3_ix (p3_var 0) (p3_int))))) (w3_or1 (t3_not (t3_chain op_le op_le (op3_I0 fun _ _ _ _ => .bl _) (op3_I0 fun _ _ _ _ => .bl _) (p3_int) (p3_len rfl z_len (a3_cons (p3_ix (p3_var 0) (p3_int)) (a3_nil))) (p3_int)))))) (ss3_one (s3_ret (p3_bl))) (ss3_nil)) (ss3_cons (s3_for PassesOwn.never rfl (p3_ix (p3_var 0) (p3_int)) (g3_name 1 sc.nd) (ss3_cons (s3_if (t3_w (w3_or (t3_not (t3_val (p3_isinst (U := "tuple") rfl z_isinstance rfl z_tuple boot_tuple' (by decide) (p3_var 1)))) (w3_or1 (t3_ne (p3_len rfl z_len (a3_cons (p3_var 1) (a3_nil))) (p3_ix (p3_var 0) (p3_int)))))) (ss3_one (s3_ret (p3_bl))) (ss3_nil)) (ss3_one (s3_if (t3_neNil hr (p3_comp (N' := ["_law_cell_here", "_law_thing"]) (ixs := [none, some 0]) rfl (compSc_of (scO := defScope (top bd 15)) (NO := ["_law_thing", "_law_room"]) rfl rfl (by decide +kernel)) (i3_val (p3_var 1)) (fun _ _ _ _ _ => g3_name 0 (show List.Nodup (["_law_cell_here", "_law_thing"] : List Str) by decide +kernel)) (fun _ _ _ _ _ => pts3_one (t3_not (t3_val (p3_fn h_m_law_is_cell hr (by decide) rfl (a3_cons (p3_var 0) (a3_cons (p3_len rfl z_len (a3_cons (p3_ix (p3_var 1) (p3_int)) (a3_nil))) (a3_nil))) (len_cons (len_cons len_nil)))))) (fun _ _ _ _ _ => p3_var 0)) (p3_lst (a3_nil))) (ss3_one (s3_ret (p3_bl))) (ss3_nil))))) (ss3_one (s3_ret (p3_bl)))))
theorem sc_is_below : FnScope ["thing", "count"] ["thing", "count"] (defScope (top bd 4)) := ⟨rfl, rfl, rfl, by decide +kernel, rfl, by decide +kernel, by decide +kernel⟩
theorem h_m_is_below {f : Addr} {fd : FuncData} (F : Fun K "is_below" "is_below" (top bd 4) f fd) (hm : mg "is_below" = some (.ref f)) (z_isinstance : mg "isinstance" = none) (z_int : mg "int" = none) (z_bool : mg "bool" = none) : Has P w K mg base "is_below" 1 2 m_is_below := by
  have sc := sc_is_below
  refine has_of (k := 0) F hm sc rfl (F.binds fun _ _ _ _ _ _ us hl => match us, hl with | [_, _], _ => rfl) fun cdv hcd A outer s H E hr => ?_
  exact ss3_one (s3_ret (p3_and (p3_isinst (U := "int") rfl z_isinstance rfl z_int boot_int' (by decide) (p3_var 0)) (p3_and (p3_not (p3_isinst (U := "bool") rfl z_isinstance rfl z_bool boot_bool' (by decide) (p3_var 0))) (p3_one (p3_chain op_le op_lt (op3_I0 fun _ _ _ _ => .bl _) (op3_I0 fun _ _ _ _ => .bl _) (p3_int) (p3_var 0) (p3_var 1))))))
theorem sc_is_cell : FnScope ["thing", "many", "goes", "says"] ["thing", "many"] (defScope (top bd 7)) := ⟨rfl, rfl, rfl, by decide +kernel, rfl, by decide +kernel, by decide +kernel⟩
theorem h_m_is_cell {f : Addr} {fd : FuncData} (F : Fun K "is_cell" "is_cell" (top bd 7) f fd) (hm : mg "is_cell" = some (.ref f)) (z_isinstance : mg "isinstance" = none) (z_tuple : mg "tuple" = none) (z_len : mg "len" = none) (c_ANSWERS : ∃ t, mg "ANSWERS" = some (.int 8 t)) (h_m_is_below : Has P w K mg base "is_below" 1 2 m_is_below) : Has P w K mg base "is_cell" 2 2 m_is_cell := by
  obtain ⟨_, c_ANSWERS⟩ := c_ANSWERS
  have sc := sc_is_cell
  refine has_of (k := 1) F hm sc rfl (F.binds fun _ _ _ _ _ _ us hl => match us, hl with | [_, _], _ => rfl) fun cdv hcd A outer s H E hr => ?_
  exact ss3_cons (s3_if (t3_w (w3_or (t3_not (t3_val (p3_isinst (U := "tuple") rfl z_isinstance rfl z_tuple boot_tuple' (by decide) (p3_var 0)))) (w3_or1 (t3_ne (p3_len rfl z_len (a3_cons (p3_var 0) (a3_nil))) (p3_int))))) (ss3_one (s3_ret (p3_bl))) (ss3_nil)) (ss3_cons (s3_asg (p3_var 0) (g3_tup rfl (gs3_cons (g3_name 2 sc.nd) (gs3_cons (g3_name 3 sc.nd) (gs3_nil))))) (ss3_one (s3_ret (p3_and (p3_or (p3_is (p3_var 2) (p3_non)) (p3_one (p3_fn h_m_is_below hr (by decide) rfl (a3_cons (p3_var 2) (a3_cons (p3_var 1) (a3_nil))) (len_cons (len_cons len_nil))))) (p3_one (p3_or (p3_is (p3_var 3) (p3_non)) (p3_one (p3_fn h_m_is_below hr (by decide) rfl (a3_cons (p3_var 3) (a3_cons (p3_globI rfl c_ANSWERS) (a3_nil))) (len_cons (len_cons len_nil))))))))))
theorem sc_is_room : FnScope ["thing", "asks", "many"] ["thing", "asks", "many"] (defScope (top bd 6)) := ⟨rfl, rfl, rfl, by decide +kernel, rfl, by decide +kernel, by decide +kernel⟩
theorem h_m_is_room {f : Addr} {fd : FuncData} (F : Fun K "is_room" "is_room" (top bd 6) f fd) (hm : mg "is_room" = some (.ref f)) (z_all : mg "all" = none) (z_isinstance : mg "isinstance" = none) (z_tuple : mg "tuple" = none) (z_len : mg "len" = none) (h_m_is_cell : Has P w K mg base "is_cell" 2 2 m_is_cell) : Has P w K mg base "is_room" 3 3 m_is_room := by
  have sc := sc_is_room
  refine has_of (k := 2) F hm sc rfl (F.binds fun _ _ _ _ _ _ us hl => match us, hl with | [_, _, _], _ => rfl) fun cdv hcd A outer s H E hr => ?_
  exact ss3_cons (s3_if (t3_w (w3_or (t3_not (t3_val (p3_isinst (U := "tuple") rfl z_isinstance rfl z_tuple boot_tuple' (by decide) (p3_var 0)))) (w3_or1 (t3_ne (p3_len rfl z_len (a3_cons (p3_var 0) (a3_nil))) (p3_var 1))))) (ss3_one (s3_ret (p3_bl))) (ss3_nil)) (ss3_one (s3_ret (p3_all rfl rfl z_all (a3_cons (p3_comp (N' := ["cell", "many"]) (ixs := [none, some 2]) rfl (compSc_of (scO := defScope (top bd 6)) (NO := ["thing", "asks", "many"]) rfl rfl (by decide +kernel)) (i3_val (p3_var 0)) (fun _ _ _ _ _ => g3_name 0 (show List.Nodup (["cell", "many"] : List Str) by decide +kernel)) (fun _ _ _ _ _ => pts3_nil) (fun _ _ _ _ _ => p3_fn h_m_is_cell hr (by decide) rfl (a3_cons (p3_var 0) (a3_cons (p3_var 1) (a3_nil))) (len_cons (len_cons len_nil)))) (a3_nil)))))
theorem sc_is_machine : FnScope ["thing", "asks", "rooms"] ["thing"] (defScope (top bd 5)) := ⟨rfl, rfl, rfl, by decide +kernel, rfl, by decide +kernel, by decide +kernel⟩
theorem h_m_is_machine {f : Addr} {fd : FuncData} (F : Fun K "is_machine" "is_machine" (top bd 5) f fd) (hm : mg "is_machine" = some (.ref f)) (z_all : mg "all" = none) (z_len : mg "len" = none) (z_isinstance : mg "isinstance" = none) (z_tuple : mg "tuple" = none) (c_MOST_ROOMS : ∃ t, mg "MOST_ROOMS" = some (.int 24 t)) (c_MOST_ASKS : ∃ t, mg "MOST_ASKS" = some (.int 4 t)) (h_m_is_room : Has P w K mg base "is_room" 3 3 m_is_room) (h_m_is_below : Has P w K mg base "is_below" 1 2 m_is_below) : Has P w K mg base "is_machine" 4 1 m_is_machine := by
  obtain ⟨_, c_MOST_ROOMS⟩ := c_MOST_ROOMS
  obtain ⟨_, c_MOST_ASKS⟩ := c_MOST_ASKS
  have sc := sc_is_machine
  refine has_of (k := 3) F hm sc rfl (F.binds fun _ _ _ _ _ _ us hl => match us, hl with | [_], _ => rfl) fun cdv hcd A outer s H E hr => ?_
  exact ss3_cons (s3_if (t3_w (w3_or (t3_not (t3_val (p3_isinst (U := "tuple") rfl z_isinstance rfl z_tuple boot_tuple' (by decide) (p3_var 0)))) (w3_or1 (t3_ne (p3_len rfl z_len (a3_cons (p3_var 0) (a3_nil))) (p3_int))))) (ss3_one (s3_ret (p3_bl))) (ss3_nil)) (ss3_cons (s3_asg (p3_var 0) (g3_tup rfl (gs3_cons (g3_name 1 sc.nd) (gs3_cons (g3_name 2 sc.nd) (gs3_nil))))) (ss3_cons (s3_if (t3_w (w3_or (t3_not (t3_val (p3_fn h_m_is_below hr (by decide) rfl (a3_cons (p3_var 1) (a3_cons (p3_plus (p3_globI rfl c_MOST_ASKS) (p3_int)) (a3_nil))) (len_cons (len_cons len_nil))))) (w3_or1 (t3_eq (p3_var 1) (p3_int))))) (ss3_one (s3_ret (p3_bl))) (ss3_nil)) (ss3_cons (s3_if (t3_w (w3_or (t3_not (t3_val (p3_isinst (U := "tuple") rfl z_isinstance rfl z_tuple boot_tuple' (by decide) (p3_var 2)))) (w3_or1 (t3_not (t3_chain op_le op_le (op3_I0 fun _ _ _ _ => .bl _) (op3_I0 fun _ _ _ _ => .bl _) (p3_int) (p3_len rfl z_len (a3_cons (p3_var 2) (a3_nil))) (p3_globI rfl c_MOST_ROOMS)))))) (ss3_one (s3_ret (p3_bl))) (ss3_nil)) (ss3_one (s3_ret (p3_all rfl rfl z_all (a3_cons (p3_comp (N' := ["room", "asks", "rooms"]) (ixs := [none, some 1, some 2]) rfl (compSc_of (scO := defScope (top bd 5)) (NO := ["thing", "asks", "rooms"]) rfl rfl (by decide +kernel)) (i3_val (p3_var 2)) (fun _ _ _ _ _ => g3_name 0 (show List.Nodup (["room", "asks", "rooms"] : List Str) by decide +kernel)) (fun _ _ _ _ _ => pts3_nil) (fun _ _ _ _ _ => p3_fn h_m_is_room hr (by decide) rfl (a3_cons (p3_var 0) (a3_cons (p3_var 1) (a3_cons (p3_len rfl z_len (a3_cons (p3_var 2) (a3_nil))) (a3_nil)))) (len_cons (len_cons (len_cons len_nil))))) (a3_nil))))))))
theorem sc_law_right : FnScope ["_law_thing", "_law_kept", "_law_found"] ["_law_thing"] (defScope (top bd 21)) := ⟨rfl, rfl, rfl, by decide +kernel, rfl, by decide +kernel, by decide +kernel⟩
theorem h_m_law_right {f : Addr} {fd : FuncData} (F : Fun K "_law_right" "_law_right" (top bd 21) f fd) (hm : mg "_law_right" = some (.ref f)) (z_isinstance : mg "isinstance" = none) (z_bool : mg "bool" = none) (z_repr : mg "repr" = none) (h_m_law_due : Has P w K mg base "_law_due" 3 1 m_law_due) (h_m_is_machine : Has P w K mg base "is_machine" 4 1 m_is_machine) : Has P w K mg base "_law_right" 5 1 m_law_right := by
  have sc := sc_law_right
  refine has_of (k := 4) F hm sc rfl (F.binds fun _ _ _ _ _ _ us hl => match us, hl with | [_], _ => rfl) fun cdv hcd A outer s H E hr => ?_
  exact ss3_cons (s3_set 1 sc.nd (p3_reprD hr rfl z_repr (a3_cons (p3_var 0) (a3_nil)))) (ss3_cons (s3_set 2 sc.nd (p3_fn h_m_is_machine hr (by decide) rfl (a3_cons (p3_var 0) (a3_nil)) (len_cons len_nil))) (ss3_one (s3_ret (p3_and (p3_isinst (U := "bool") rfl z_isinstance rfl z_bool boot_bool' (by decide) (p3_var 2)) (p3_and (p3_eq (p3_var 2) (p3_fn h_m_law_due hr (by decide) rfl (a3_cons (p3_var 0) (a3_nil)) (len_cons len_nil))) (p3_one (p3_eq (p3_reprD hr rfl z_repr (a3_cons (p3_var 0) (a3_nil))) (p3_var 1))))))))
theorem sc_law_take : FnScope ["_law_pen", "_law_many", "_law_digit", "_law_at", "_law_cell_here", "_law_primes", "_law_prime", "_law_number"] ["_law_pen", "_law_many"] (defScope (top bd 9)) := ⟨rfl, rfl, rfl, by decide +kernel, rfl, by decide +kernel, by decide +kernel⟩
theorem h_m_law_take {f : Addr} {fd : FuncData} (F : Fun K "_law_take" "_law_take" (top bd 9) f fd) (hm : mg "_law_take" = some (.ref f)) (z_len : mg "len" = none) (z_abs : mg "abs" = none) : Has P w K mg base "_law_take" 1 2 m_law_take := by
  have sc := sc_law_take
  refine has_of (k := 0) F hm sc rfl (F.binds fun _ _ _ _ _ _ us hl => match us, hl with | [_, _], _ => rfl) fun cdv hcd A outer s H E hr => ?_
  exact ss3_cons (s3_if (t3_gt (p3_ix (p3_var 0) (p3_int)) (p3_int)) (ss3_cons (s3_set 2 sc.nd (p3_mod (p3_ix (p3_var 0) (p3_int)) (p3_var 1))) (ss3_cons (s3_asg (p3_div (p3_ix (p3_var 0) (p3_int)) (p3_var 1)) (g3_sub (p3_var 0) (p3_int))) (ss3_one (s3_ret (p3_var 2))))) (ss3_nil)) (ss3_cons (s3_set 3 sc.nd (p3_ix (p3_var 0) (p3_int))) (ss3_cons (s3_asg (p3_plus (p3_var 3) (p3_int)) (g3_sub (p3_var 0) (p3_int))) (ss3_cons (s3_set 4 sc.nd (p3_int)) (ss3_cons (s3_if (t3_gt (p3_len rfl z_len (a3_cons (p3_ix (p3_var 0) (p3_int)) (a3_nil))) (p3_int)) (ss3_one (s3_set 4 sc.nd (p3_ix (p3_ix (p3_var 0) (p3_int)) (p3_mod (p3_var 3) (p3_len rfl z_len (a3_cons (p3_ix (p3_var 0) (p3_int)) (a3_nil))))))) (ss3_nil)) (ss3_cons (s3_if (t3_w (w3_and (t3_lt (p3_var 3) (p3_len rfl z_len (a3_cons (p3_ix (p3_var 0) (p3_int)) (a3_nil)))) (w3_and1 (t3_ge (p3_abs rfl z_abs (a3_cons (p3_var 4) (a3_nil))) (p3_pow (p3_int) (p3_int)))))) (ss3_cons (s3_asg (p3_div (p3_abs rfl z_abs (a3_cons (p3_var 4) (a3_nil))) (p3_var 1)) (g3_sub (p3_var 0) (p3_int))) (ss3_one (s3_ret (p3_mod (p3_abs rfl z_abs (a3_cons (p3_var 4) (a3_nil))) (p3_var 1))))) (ss3_nil)) (ss3_cons (s3_set 5 sc.nd (p3_lst (a3_cons (p3_int) (a3_cons (p3_int) (a3_cons (p3_int) (a3_cons (p3_int) (a3_cons (p3_int) (a3_cons (p3_int) (a3_cons (p3_int) (a3_nil)))))))))) (ss3_cons (s3_set 6 sc.nd (p3_ix (p3_var 5) (p3_mod (p3_var 3) (p3_int)))) (ss3_cons (s3_set 7 sc.nd (p3_mod (p3_plus (p3_plus (p3_times (p3_mod (p3_var 4) (p3_var 6)) (p3_int)) (p3_times (p3_int) (p3_var 3))) (p3_int)) (p3_var 6))) (ss3_cons (s3_set 7 sc.nd (p3_mod (p3_plus (p3_plus (p3_times (p3_pow (p3_var 7) (p3_int)) (p3_int)) (p3_times (p3_var 3) (p3_var 3))) (p3_int)) (p3_ix (p3_var 5) (p3_mod (p3_plus (p3_var 3) (p3_int)) (p3_int))))) (ss3_one (s3_ret (p3_mod (p3_div (p3_var 7) (p3_int)) (p3_var 1)))))))))))))
theorem sc_law_deep : FnScope ["_law_pen", "_law_thing", "_law_k"] ["_law_pen"] (defScope (top bd 16)) := ⟨rfl, rfl, rfl, by decide +kernel, rfl, by decide +kernel, by decide +kernel⟩
theorem h_m_law_deep {f : Addr} {fd : FuncData} (F : Fun K "_law_deep" "_law_deep" (top bd 16) f fd) (hm : mg "_law_deep" = some (.ref f)) (z_range : mg "range" = none) (h_m_law_take : Has P w K mg base "_law_take" 1 2 m_law_take) : Has P w K mg base "_law_deep" 2 1 m_law_deep := by
  have sc := sc_law_deep
  refine has_of (k := 1) F hm sc rfl (F.binds fun _ _ _ _ _ _ us hl => match us, hl with | [_], _ => rfl) fun cdv hcd A outer s H E hr => ?_
  exact ss3_cons (s3_set 1 sc.nd (p3_non)) (ss3_cons (s3_forR1 PassesOwn.never rfl rfl z_range (a3_cons (p3_ix (p3_lst (a3_cons (p3_int) (a3_cons (p3_int) (a3_cons (p3_int) (a3_nil))))) (p3_fn h_m_law_take hr (by decide) rfl (a3_cons (p3_var 0) (a3_cons (p3_int) (a3_nil))) (len_cons (len_cons len_nil)))) (a3_nil)) (g3_name 2 sc.nd) (ss3_one (s3_set 1 sc.nd (p3_ix (p3_lst (a3_cons (p3_lst (a3_cons (p3_var 1) (a3_nil))) (a3_cons (p3_tup (a3_cons (p3_var 1) (a3_nil))) (a3_nil)))) (p3_fn h_m_law_take hr (by decide) rfl (a3_cons (p3_var 0) (a3_cons (p3_int) (a3_nil))) (len_cons (len_cons len_nil))))))) (ss3_one (s3_ret (p3_var 1))))
theorem sc_law_put : FnScope ["_law_some", "_law_at", "_law_thing"] ["_law_some", "_law_at", "_law_thing"] (defScope (top bd 18)) := ⟨rfl, rfl, rfl, by decide +kernel, rfl, by decide +kernel, by decide +kernel⟩
theorem h_m_law_put {f : Addr} {fd : FuncData} (F : Fun K "_law_put" "_law_put" (top bd 18) f fd) (hm : mg "_law_put" = some (.ref f)) : Has P w K mg base "_law_put" 1 3 m_law_put := by
  have sc := sc_law_put
  refine has_of (k := 0) F hm sc rfl (F.binds fun _ _ _ _ _ _ us hl => match us, hl with | [_, _, _], _ => rfl) fun cdv hcd A outer s H E hr => ?_
  exact ss3_one (s3_ret (p3_plus (p3_plus (p3_sl (p3_var 0) (o3_none) (o3_some (p3_var 1))) (p3_tup (a3_cons (p3_var 2) (a3_nil)))) (p3_sl (p3_var 0) (o3_some (p3_plus (p3_var 1) (p3_int))) (o3_none))))
theorem sc_law_other : FnScope ["_law_pen", "_law_thing", "_law_most", "_law_way", "_law_some"] ["_law_pen", "_law_thing", "_law_most"] (defScope (top bd 17)) := ⟨rfl, rfl, rfl, by decide +kernel, rfl, by decide +kernel, by decide +kernel⟩
theorem h_m_law_other {f : Addr} {fd : FuncData} (F : Fun K "_law_other" "_law_other" (top bd 17) f fd) (hm : mg "_law_other" = some (.ref f)) (h_m_law_deep : Has P w K mg base "_law_deep" 2 1 m_law_deep) (h_m_law_take : Has P w K mg base "_law_take" 1 2 m_law_take) : Has P w K mg base "_law_other" 3 3 m_law_other := by
  have sc := sc_law_other
  refine has_of (k := 2) F hm sc rfl (F.binds fun _ _ _ _ _ _ us hl => match us, hl with | [_, _, _], _ => rfl) fun cdv hcd A outer s H E hr => ?_
  exact ss3_cons (s3_set 3 sc.nd (p3_fn h_m_law_take hr (by decide) rfl (a3_cons (p3_var 0) (a3_cons (p3_int) (a3_nil))) (len_cons (len_cons len_nil)))) (ss3_cons (s3_if (t3_eq (p3_var 3) (p3_int)) (ss3_one (s3_ret (p3_fn h_m_law_deep hr (by decide) rfl (a3_cons (p3_var 0) (a3_nil)) (len_cons len_nil)))) (ss3_nil)) (ss3_cons (s3_set 4 sc.nd (p3_lst (a3_cons (p3_non) (a3_cons (p3_bl) (a3_cons (p3_bl) (a3_cons (p3_usub (p3_int)) (a3_cons (p3_var 2) (a3_cons (p3_plus (p3_var 2) (p3_int)) (a3_cons (p3_int) (a3_cons (p3_pow (p3_int) (p3_int)) (a3_cons (p3_usub (p3_pow (p3_int) (p3_int))) (a3_cons (p3_str) (a3_cons (p3_str) (a3_cons (p3_lst (a3_nil)) (a3_cons (p3_tup (a3_nil)) (a3_cons (p3_dict0) (a3_cons (p3_lst (a3_cons (p3_var 1) (a3_nil))) (a3_cons (p3_tup (a3_cons (p3_var 1) (a3_nil))) (a3_nil))))))))))))))))))) (ss3_cons (s3_set 4 sc.nd (p3_plus (p3_var 4) (p3_lst (a3_cons (p3_dict1 1) (a3_cons (p3_str) (a3_cons (p3_lst (a3_cons (p3_int) (a3_nil))) (a3_cons (p3_tup (a3_cons (p3_non) (a3_cons (p3_non) (a3_nil)))) (a3_cons (p3_tup (a3_cons (p3_int) (a3_cons (p3_int) (a3_cons (p3_int) (a3_nil))))) (a3_cons (p3_sub (p3_var 2) (p3_int)) (a3_cons (p3_int) (a3_nil))))))))))) (ss3_one (s3_ret (p3_ix (p3_var 4) (p3_var 3)))))))
theorem sc_law_row_bent : FnScope ["_law_pen", "_law_some", "_law_at", "_law_twice"] ["_law_pen", "_law_some"] (defScope (top bd 19)) := ⟨rfl, rfl, rfl, by decide +kernel, rfl, by decide +kernel, by decide +kernel⟩
theorem h_m_law_row_bent {f : Addr} {fd : FuncData} (F : Fun K "_law_row_bent" "_law_row_bent" (top bd 19) f fd) (hm : mg "_law_row_bent" = some (.ref f)) (z_list : mg "list" = none) (z_len : mg "len" = none) (h_m_law_take : Has P w K mg base "_law_take" 1 2 m_law_take) : Has P w K mg base "_law_row_bent" 2 2 m_law_row_bent := by
  have sc := sc_law_row_bent
  refine has_of (k := 1) F hm sc rfl (F.binds fun _ _ _ _ _ _ us hl => match us, hl with | [_, _], _ => rfl) fun cdv hcd A outer s H E hr => ?_
  exact ss3_cons (s3_set 2 sc.nd (p3_fn h_m_law_take hr (by decide) rfl (a3_cons (p3_var 0) (a3_cons (p3_len rfl z_len (a3_cons (p3_var 1) (a3_nil))) (a3_nil))) (len_cons (len_cons len_nil)))) (ss3_cons (s3_set 3 sc.nd (p3_plus (p3_plus (p3_sl (p3_var 1) (o3_none) (o3_some (p3_var 2))) (p3_sl (p3_var 1) (o3_some (p3_var 2)) (o3_some (p3_plus (p3_var 2) (p3_int))))) (p3_sl (p3_var 1) (o3_some (p3_var 2)) (o3_none)))) (ss3_one (s3_ret (p3_ix (p3_lst (a3_cons (p3_list1 rfl z_list (a3_cons (p3_var 1) (a3_nil))) (a3_cons (p3_sl (p3_var 1) (o3_some (p3_int)) (o3_none)) (a3_cons (p3_plus (p3_var 1) (p3_sl (p3_var 1) (o3_some (p3_var 2)) (o3_some (p3_plus (p3_var 2) (p3_int))))) (a3_cons (p3_var 3) (a3_cons (p3_tup (a3_nil)) (a3_nil))))))) (p3_fn h_m_law_take hr (by decide) rfl (a3_cons (p3_var 0) (a3_cons (p3_int) (a3_nil))) (len_cons (len_cons len_nil)))))))
theorem sc_law_bent : FnScope ["_law_pen", "_law_machine_here", "_law_way", "_law_asks", "_law_rooms", "_law_at", "_law_ask", "_law_goes", "_law_tells", "_law_other_here", "_law_bent_here", "_law_cell_here"] ["_law_pen", "_law_machine_here"] (defScope (top bd 20)) := ⟨rfl, rfl, rfl, by decide +kernel, rfl, by decide +kernel, by decide +kernel⟩
theorem h_m_law_bent {f : Addr} {fd : FuncData} (F : Fun K "_law_bent" "_law_bent" (top bd 20) f fd) (hm : mg "_law_bent" = some (.ref f)) (z_len : mg "len" = none) (z_list : mg "list" = none) (h_m_law_put : Has P w K mg base "_law_put" 1 3 m_law_put) (h_m_law_other : Has P w K mg base "_law_other" 3 3 m_law_other) (h_m_law_take : Has P w K mg base "_law_take" 1 2 m_law_take) (h_m_law_row_bent : Has P w K mg base "_law_row_bent" 2 2 m_law_row_bent) : Has P w K mg base "_law_bent" 4 2 m_law_bent := by
  have sc := sc_law_bent
  refine has_of (k := 3) F hm sc rfl (F.binds fun _ _ _ _ _ _ us hl => match us, hl with | [_, _], _ => rfl) fun cdv hcd A outer s H E hr => ?_
  exact ss3_cons (s3_set 2 sc.nd (p3_fn h_m_law_take hr (by decide) rfl (a3_cons (p3_var 0) (a3_cons (p3_int) (a3_nil))) (len_cons (len_cons len_nil)))) (ss3_cons (s3_asg (p3_var 1) (g3_tup rfl (gs3_cons (g3_name 3 sc.nd) (gs3_cons (g3_name 4 sc.nd) (gs3_nil))))) (ss3_cons (s3_set 5 sc.nd (p3_fn h_m_law_take hr (by decide) rfl (a3_cons (p3_var 0) (a3_cons (p3_len rfl z_len (a3_cons (p3_var 4) (a3_nil))) (a3_nil))) (len_cons (len_cons len_nil)))) (ss3_cons (s3_set 6 sc.nd (p3_fn h_m_law_take hr (by decide) rfl (a3_cons (p3_var 0) (a3_cons (p3_var 3) (a3_nil))) (len_cons (len_cons len_nil)))) (ss3_cons (s3_asg (p3_ix (p3_ix (p3_var 4) (p3_var 5)) (p3_var 6)) (g3_tup rfl (gs3_cons (g3_name 7 sc.nd) (gs3_cons (g3_name 8 sc.nd) (gs3_nil))))) (ss3_cons (s3_if (t3_eq (p3_var 2) (p3_int)) (ss3_one (s3_ret (p3_fn h_m_law_put hr (by decide) rfl (a3_cons (p3_var 1) (a3_cons (p3_int) (a3_cons (p3_fn h_m_law_other hr (by decide) rfl (a3_cons (p3_var 0) (a3_cons (p3_var 3) (a3_cons (p3_int) (a3_nil)))) (len_cons (len_cons (len_cons len_nil)))) (a3_nil)))) (len_cons (len_cons (len_cons len_nil)))))) (ss3_nil)) (ss3_cons (s3_if (t3_eq (p3_var 2) (p3_int)) (ss3_one (s3_ret (p3_fn h_m_law_put hr (by decide) rfl (a3_cons (p3_var 1) (a3_cons (p3_int) (a3_cons (p3_fn h_m_law_other hr (by decide) rfl (a3_cons (p3_var 0) (a3_cons (p3_var 4) (a3_cons (p3_int) (a3_nil)))) (len_cons (len_cons (len_cons len_nil)))) (a3_nil)))) (len_cons (len_cons (len_cons len_nil)))))) (ss3_nil)) (ss3_cons (s3_if (t3_eq (p3_var 2) (p3_int)) (ss3_cons (s3_set 9 sc.nd (p3_fn h_m_law_other hr (by decide) rfl (a3_cons (p3_var 0) (a3_cons (p3_var 1) (a3_cons (p3_int) (a3_nil)))) (len_cons (len_cons (len_cons len_nil))))) (ss3_one (s3_ret (p3_ix (p3_lst (a3_cons (p3_list1 rfl z_list (a3_cons (p3_var 1) (a3_nil))) (a3_cons (p3_sl (p3_var 1) (o3_none) (o3_some (p3_int))) (a3_cons (p3_plus (p3_var 1) (p3_tup (a3_cons (p3_int) (a3_nil)))) (a3_cons (p3_tup (a3_cons (p3_var 4) (a3_cons (p3_var 3) (a3_nil)))) (a3_cons (p3_var 9) (a3_nil))))))) (p3_fn h_m_law_take hr (by decide) rfl (a3_cons (p3_var 0) (a3_cons (p3_int) (a3_nil))) (len_cons (len_cons len_nil))))))) (ss3_nil)) (ss3_cons (s3_if (t3_eq (p3_var 2) (p3_int)) (ss3_one (s3_ret (p3_tup (a3_cons (p3_var 3) (a3_cons (p3_fn h_m_law_row_bent hr (by decide) rfl (a3_cons (p3_var 0) (a3_cons (p3_var 4) (a3_nil))) (len_cons (len_cons len_nil))) (a3_nil)))))) (ss3_nil)) (ss3_cons (s3_if (t3_eq (p3_var 2) (p3_int)) (ss3_one (s3_ret (p3_tup (a3_cons (p3_var 3) (a3_cons (p3_times (p3_tup (a3_cons (p3_ix (p3_var 4) (p3_int)) (a3_nil))) (p3_ix (p3_lst (a3_cons (p3_int) (a3_cons (p3_int) (a3_cons (p3_int) (a3_cons (p3_int) (a3_nil)))))) (p3_fn h_m_law_take hr (by decide) rfl (a3_cons (p3_var 0) (a3_cons (p3_int) (a3_nil))) (len_cons (len_cons len_nil))))) (a3_nil)))))) (ss3_nil)) (ss3_cons (s3_if (t3_eq (p3_var 2) (p3_int)) (ss3_cons (s3_set 10 sc.nd (p3_ix (p3_lst (a3_cons (p3_fn h_m_law_row_bent hr (by decide) rfl (a3_cons (p3_var 0) (a3_cons (p3_ix (p3_var 4) (p3_var 5)) (a3_nil))) (len_cons (len_cons len_nil))) (a3_cons (p3_fn h_m_law_other hr (by decide) rfl (a3_cons (p3_var 0) (a3_cons (p3_ix (p3_var 4) (p3_var 5)) (a3_cons (p3_int) (a3_nil)))) (len_cons (len_cons (len_cons len_nil)))) (a3_nil)))) (p3_fn h_m_law_take hr (by decide) rfl (a3_cons (p3_var 0) (a3_cons (p3_int) (a3_nil))) (len_cons (len_cons len_nil))))) (ss3_one (s3_ret (p3_tup (a3_cons (p3_var 3) (a3_cons (p3_fn h_m_law_put hr (by decide) rfl (a3_cons (p3_var 4) (a3_cons (p3_var 5) (a3_cons (p3_var 10) (a3_nil)))) (len_cons (len_cons (len_cons len_nil)))) (a3_nil))))))) (ss3_nil)) (ss3_cons (s3_set 11 sc.nd (p3_ix (p3_lst (a3_cons (p3_tup (a3_cons (p3_fn h_m_law_other hr (by decide) rfl (a3_cons (p3_var 0) (a3_cons (p3_var 7) (a3_cons (p3_len rfl z_len (a3_cons (p3_var 4) (a3_nil))) (a3_nil)))) (len_cons (len_cons (len_cons len_nil)))) (a3_cons (p3_var 8) (a3_nil)))) (a3_cons (p3_tup (a3_cons (p3_var 7) (a3_cons (p3_fn h_m_law_other hr (by decide) rfl (a3_cons (p3_var 0) (a3_cons (p3_var 8) (a3_cons (p3_int) (a3_nil)))) (len_cons (len_cons (len_cons len_nil)))) (a3_nil)))) (a3_cons (p3_non) (a3_nil))))) (p3_sub (p3_var 2) (p3_int)))) (ss3_cons (s3_if (t3_eq (p3_var 2) (p3_int)) (ss3_one (s3_set 11 sc.nd (p3_ix (p3_lst (a3_cons (p3_lst (a3_cons (p3_var 7) (a3_cons (p3_var 8) (a3_nil)))) (a3_cons (p3_tup (a3_cons (p3_var 7) (a3_nil))) (a3_cons (p3_tup (a3_cons (p3_var 7) (a3_cons (p3_var 8) (a3_cons (p3_non) (a3_nil))))) (a3_cons (p3_fn h_m_law_other hr (by decide) rfl (a3_cons (p3_var 0) (a3_cons (p3_tup (a3_cons (p3_var 7) (a3_cons (p3_var 8) (a3_nil)))) (a3_cons (p3_int) (a3_nil)))) (len_cons (len_cons (len_cons len_nil)))) (a3_nil)))))) (p3_fn h_m_law_take hr (by decide) rfl (a3_cons (p3_var 0) (a3_cons (p3_int) (a3_nil))) (len_cons (len_cons len_nil)))))) (ss3_nil)) (ss3_one (s3_ret (p3_tup (a3_cons (p3_var 3) (a3_cons (p3_fn h_m_law_put hr (by decide) rfl (a3_cons (p3_var 4) (a3_cons (p3_var 5) (a3_cons (p3_fn h_m_law_put hr (by decide) rfl (a3_cons (p3_ix (p3_var 4) (p3_var 5)) (a3_cons (p3_var 6) (a3_cons (p3_var 11) (a3_nil)))) (len_cons (len_cons (len_cons len_nil)))) (a3_nil)))) (len_cons (len_cons (len_cons len_nil)))) (a3_nil))))))))))))))))))
theorem sc_law_near : FnScope ["_law_pen", "_law_room", "_law_many", "_law_kinds", "_law_cells", "_law_cell_here", "_law_way", "_law_goes", "_law_tells"] ["_law_pen", "_law_room", "_law_many", "_law_kinds"] (defScope (top bd 11)) := ⟨rfl, rfl, rfl, by decide +kernel, rfl, by decide +kernel, by decide +kernel⟩
theorem h_m_law_near {f : Addr} {fd : FuncData} (F : Fun K "_law_near" "_law_near" (top bd 11) f fd) (hm : mg "_law_near" = some (.ref f)) (z_tuple : mg "tuple" = none) (h_m_law_take : Has P w K mg base "_law_take" 1 2 m_law_take) : Has P w K mg base "_law_near" 2 4 m_law_near := by
  have sc := sc_law_near
  refine has_of (k := 1) F hm sc rfl (F.binds fun _ _ _ _ _ _ us hl => match us, hl with | [_, _, _, _], _ => rfl) fun cdv hcd A outer s H E hr => ?_
  exact ss3_cons (s3_set 4 sc.nd (p3_lst (a3_nil))) (ss3_cons (s3_for PassesOwn.never rfl (p3_var 1) (g3_name 5 sc.nd) (ss3_cons (s3_set 6 sc.nd (p3_fn h_m_law_take hr (by decide) rfl (a3_cons (p3_var 0) (a3_cons (p3_int) (a3_nil))) (len_cons (len_cons len_nil)))) (ss3_cons (s3_asg (p3_var 5) (g3_tup rfl (gs3_cons (g3_name 7 sc.nd) (gs3_cons (g3_name 8 sc.nd) (gs3_nil))))) (ss3_cons (s3_if (t3_eq (p3_var 6) (p3_int)) (ss3_one (s3_set 7 sc.nd (p3_non))) (ss3_nil)) (ss3_cons (s3_if (t3_eq (p3_var 6) (p3_int)) (ss3_one (s3_set 8 sc.nd (p3_non))) (ss3_nil)) (ss3_cons (s3_if (t3_eq (p3_var 6) (p3_int)) (ss3_one (s3_set 7 sc.nd (p3_fn h_m_law_take hr (by decide) rfl (a3_cons (p3_var 0) (a3_cons (p3_var 2) (a3_nil))) (len_cons (len_cons len_nil))))) (ss3_nil)) (ss3_cons (s3_if (t3_eq (p3_var 6) (p3_int)) (ss3_one (s3_set 8 sc.nd (p3_fn h_m_law_take hr (by decide) rfl (a3_cons (p3_var 0) (a3_cons (p3_var 3) (a3_nil))) (len_cons (len_cons len_nil))))) (ss3_nil)) (ss3_one (s3_expr (p3_append (p3_var 4) (p3_tup (a3_cons (p3_var 7) (a3_cons (p3_var 8) (a3_nil)))))))))))))) (ss3_one (s3_ret (p3_tuple1 rfl z_tuple (a3_cons (p3_var 4) (a3_nil))))))
theorem sc_law_cell : FnScope ["_law_pen", "_law_many", "_law_share", "_law_kinds", "_law_goes", "_law_tells"] ["_law_pen", "_law_many", "_law_share", "_law_kinds"] (defScope (top bd 10)) := ⟨rfl, rfl, rfl, by decide +kernel, rfl, by decide +kernel, by decide +kernel⟩
theorem h_m_law_cell {f : Addr} {fd : FuncData} (F : Fun K "_law_cell" "_law_cell" (top bd 10) f fd) (hm : mg "_law_cell" = some (.ref f)) (h_m_law_take : Has P w K mg base "_law_take" 1 2 m_law_take) : Has P w K mg base "_law_cell" 2 4 m_law_cell := by
  have sc := sc_law_cell
  refine has_of (k := 1) F hm sc rfl (F.binds fun _ _ _ _ _ _ us hl => match us, hl with | [_, _, _, _], _ => rfl) fun cdv hcd A outer s H E hr => ?_
  exact ss3_cons (s3_set 4 sc.nd (p3_non)) (ss3_cons (s3_if (t3_ge (p3_fn h_m_law_take hr (by decide) rfl (a3_cons (p3_var 0) (a3_cons (p3_int) (a3_nil))) (len_cons (len_cons len_nil))) (p3_var 2)) (ss3_one (s3_set 4 sc.nd (p3_fn h_m_law_take hr (by decide) rfl (a3_cons (p3_var 0) (a3_cons (p3_var 1) (a3_nil))) (len_cons (len_cons len_nil))))) (ss3_nil)) (ss3_cons (s3_set 5 sc.nd (p3_non)) (ss3_cons (s3_if (t3_ge (p3_fn h_m_law_take hr (by decide) rfl (a3_cons (p3_var 0) (a3_cons (p3_int) (a3_nil))) (len_cons (len_cons len_nil))) (p3_var 2)) (ss3_one (s3_set 5 sc.nd (p3_fn h_m_law_take hr (by decide) rfl (a3_cons (p3_var 0) (a3_cons (p3_var 3) (a3_nil))) (len_cons (len_cons len_nil))))) (ss3_nil)) (ss3_one (s3_ret (p3_tup (a3_cons (p3_var 4) (a3_cons (p3_var 5) (a3_nil)))))))))
theorem sc_law_machine : FnScope ["_law_pen", "_law_most", "_law_copies", "_law_share", "_law_kinds", "_law_asks", "_law_many", "_law_rooms", "_law_k"] ["_law_pen", "_law_most"] (defScope (top bd 12)) := ⟨rfl, rfl, rfl, by decide +kernel, rfl, by decide +kernel, by decide +kernel⟩
theorem h_m_law_machine {f : Addr} {fd : FuncData} (F : Fun K "_law_machine" "_law_machine" (top bd 12) f fd) (hm : mg "_law_machine" = some (.ref f)) (z_tuple : mg "tuple" = none) (z_range : mg "range" = none) (h_m_law_take : Has P w K mg base "_law_take" 1 2 m_law_take) (h_m_law_near : Has P w K mg base "_law_near" 2 4 m_law_near) (h_m_law_cell : Has P w K mg base "_law_cell" 2 4 m_law_cell) : Has P w K mg base "_law_machine" 3 2 m_law_machine := by
  have sc := sc_law_machine
  refine has_of (k := 2) F hm sc rfl (F.binds fun _ _ _ _ _ _ us hl => match us, hl with | [_, _], _ => rfl) fun cdv hcd A outer s H E hr => ?_
  exact ss3_cons (s3_set 2 sc.nd (p3_fn h_m_law_take hr (by decide) rfl (a3_cons (p3_var 0) (a3_cons (p3_int) (a3_nil))) (len_cons (len_cons len_nil)))) (ss3_cons (s3_set 3 sc.nd (p3_ix (p3_lst (a3_cons (p3_int) (a3_cons (p3_int) (a3_cons (p3_int) (a3_cons (p3_int) (a3_nil)))))) (p3_fn h_m_law_take hr (by decide) rfl (a3_cons (p3_var 0) (a3_cons (p3_int) (a3_nil))) (len_cons (len_cons len_nil))))) (ss3_cons (s3_set 4 sc.nd (p3_ix (p3_lst (a3_cons (p3_int) (a3_cons (p3_int) (a3_cons (p3_int) (a3_cons (p3_int) (a3_nil)))))) (p3_fn h_m_law_take hr (by decide) rfl (a3_cons (p3_var 0) (a3_cons (p3_int) (a3_nil))) (len_cons (len_cons len_nil))))) (ss3_cons (s3_set 5 sc.nd (p3_plus (p3_int) (p3_fn h_m_law_take hr (by decide) rfl (a3_cons (p3_var 0) (a3_cons (p3_int) (a3_nil))) (len_cons (len_cons len_nil))))) (ss3_cons (s3_set 6 sc.nd (p3_plus (p3_int) (p3_fn h_m_law_take hr (by decide) rfl (a3_cons (p3_var 0) (a3_cons (p3_var 1) (a3_nil))) (len_cons (len_cons len_nil))))) (ss3_cons (s3_set 7 sc.nd (p3_lst (a3_nil))) (ss3_cons (s3_forR1 PassesOwn.never rfl rfl z_range (a3_cons (p3_var 6) (a3_nil)) (g3_name 8 sc.nd) (ss3_one (s3_if (t3_w (w3_and (t3_gt (p3_var 8) (p3_int)) (w3_and (t3_gt (p3_var 2) (p3_int)) (w3_and1 (t3_gt (p3_fn h_m_law_take hr (by decide) rfl (a3_cons (p3_var 0) (a3_cons (p3_int) (a3_nil))) (len_cons (len_cons len_nil))) (p3_int)))))) (ss3_one (s3_expr (p3_append (p3_var 7) (p3_fn h_m_law_near hr (by decide) rfl (a3_cons (p3_var 0) (a3_cons (p3_ix (p3_var 7) (p3_fn h_m_law_take hr (by decide) rfl (a3_cons (p3_var 0) (a3_cons (p3_var 8) (a3_nil))) (len_cons (len_cons len_nil)))) (a3_cons (p3_var 6) (a3_cons (p3_var 4) (a3_nil))))) (len_cons (len_cons (len_cons (len_cons len_nil)))))))) (ss3_one (s3_expr (p3_append (p3_var 7) (p3_tuple1 rfl z_tuple (a3_cons (p3_comp (N' := ["_law_ask", "_law_pen", "_law_many", "_law_share", "_law_kinds"]) (ixs := [none, some 0, some 6, some 3, some 4]) rfl (compSc_of (scO := defScope (top bd 12)) (NO := ["_law_pen", "_law_most", "_law_copies", "_law_share", "_law_kinds", "_law_asks", "_law_many", "_law_rooms", "_law_k"]) rfl rfl (by decide +kernel)) (i3_rng1 rfl z_range (a3_cons (p3_var 5) (a3_nil))) (fun _ _ _ _ _ => g3_name 0 (show List.Nodup (["_law_ask", "_law_pen", "_law_many", "_law_share", "_law_kinds"] : List Str) by decide +kernel)) (fun _ _ _ _ _ => pts3_nil) (fun _ _ _ _ _ => p3_fn h_m_law_cell hr (by decide) rfl (a3_cons (p3_var 1) (a3_cons (p3_var 2) (a3_cons (p3_var 3) (a3_cons (p3_var 4) (a3_nil))))) (len_cons (len_cons (len_cons (len_cons len_nil)))))) (a3_nil))))))))) (ss3_one (s3_ret (p3_tup (a3_cons (p3_var 5) (a3_cons (p3_tuple1 rfl z_tuple (a3_cons (p3_var 7) (a3_nil))) (a3_nil))))))))))))
theorem sc_law : FnScope ["_law_script", "_law_pen", "_law_turn", "_law_machine_here", "_law_many", "_law_wide", "_law_k", "_law_some", "_law_thing"] ["_law_script"] (defScope (top bd 22)) := ⟨rfl, rfl, rfl, by decide +kernel, rfl, by decide +kernel, by decide +kernel⟩
theorem law_fn {f : Addr} {fd : FuncData} (F : Fun K "law" "law" (top bd 22) f fd) (z_range : mg "range" = none) (z_tuple : mg "tuple" = none) (h_m_law_right : Has P w K mg base "_law_right" 5 1 m_law_right) (h_m_law_deep : Has P w K mg base "_law_deep" 2 1 m_law_deep) (h_m_law_bent : Has P w K mg base "_law_bent" 4 2 m_law_bent) (h_m_law_due : Has P w K mg base "_law_due" 3 1 m_law_due) (h_m_is_machine : Has P w K mg base "is_machine" 4 1 m_is_machine) (h_m_law_machine : Has P w K mg base "_law_machine" 3 2 m_law_machine) : FnOk P w K mg base CX0 6 f fd ["_law_script"] (sp3 K 1 m_law) := by
  have sc := sc_law
  refine fun3 (k := 5) F sc rfl fun cdv hcd A outer s H E hr => ?_
  refine ss3_cons ?_ ?_
  · exact s3_set 1 sc.nd (p3_lst (a3_cons (p3_var 0) (a3_cons (p3_int) (a3_cons (p3_int) (a3_nil)))))
  refine ss3_cons ?_ ?_
  · refine s3_forR1 PassesOwn.never rfl rfl z_range (a3_cons (p3_int) (a3_nil)) (g3_name 2 sc.nd) ?_
    refine ss3_cons ?_ ?_
    · exact s3_set 3 sc.nd (p3_fn h_m_law_machine hr (by decide) rfl (a3_cons (p3_var 1) (a3_cons (p3_ix (p3_lst (a3_cons (p3_int) (a3_cons (p3_int) (a3_nil)))) (p3_var 2)) (a3_nil))) (len_cons (len_cons len_nil)))
    refine ss3_cons ?_ ?_
    · refine s3_if (t3_isNotB (p3_fn h_m_is_machine hr (by decide) rfl (a3_cons (p3_var 3) (a3_nil)) (len_cons len_nil)) (p3_bl)) ?_ ?_
      · refine ss3_one ?_
        exact s3_ret (p3_bl)
      · exact (ss3_nil)
    refine ss3_cons ?_ ?_
    · refine s3_for PassesOwn.never rfl (p3_tup (a3_cons (p3_int) (a3_cons (p3_int) (a3_cons (p3_int) (a3_nil))))) (g3_name 4 sc.nd) ?_
      refine ss3_cons ?_ ?_
      · exact s3_set 5 sc.nd (p3_tuple1 rfl z_tuple (a3_cons (p3_comp (N' := ["_law_room", "_law_many"]) (ixs := [none, some 4]) rfl (compSc_of (scO := defScope (top bd 22)) (NO := ["_law_script", "_law_pen", "_law_turn", "_law_machine_here", "_law_many", "_law_wide", "_law_k", "_law_some", "_law_thing"]) rfl rfl (by decide +kernel)) (i3_val (p3_ix (p3_var 3) (p3_int))) (fun _ _ _ _ _ => g3_name 0 (show List.Nodup (["_law_room", "_law_many"] : List Str) by decide +kernel)) (fun _ _ _ _ _ => pts3_nil) (fun _ _ _ _ _ => p3_sl (p3_times (p3_var 0) (p3_int)) (o3_none) (o3_some (p3_var 1)))) (a3_nil)))
      refine ss3_one ?_
      refine s3_if (t3_w (w3_or (t3_not (t3_val (p3_fn h_m_law_right hr (by decide) rfl (a3_cons (p3_tup (a3_cons (p3_var 4) (a3_cons (p3_var 5) (a3_nil)))) (a3_nil)) (len_cons len_nil)))) (w3_or1 (t3_ne (p3_fn h_m_law_due hr (by decide) rfl (a3_cons (p3_tup (a3_cons (p3_var 4) (a3_cons (p3_var 5) (a3_nil)))) (a3_nil)) (len_cons len_nil)) (p3_eq (p3_var 4) (p3_int)))))) ?_ ?_
      · refine ss3_one ?_
        exact s3_ret (p3_bl)
      · exact (ss3_nil)
    refine ss3_one ?_
    refine s3_forR1 PassesOwn.never rfl rfl z_range (a3_cons (p3_int) (a3_nil)) (g3_name 6 sc.nd) ?_
    refine ss3_one ?_
    refine s3_if (t3_w (w3_or (t3_not (t3_val (p3_fn h_m_law_right hr (by decide) rfl (a3_cons (p3_fn h_m_law_bent hr (by decide) rfl (a3_cons (p3_var 1) (a3_cons (p3_var 3) (a3_nil))) (len_cons (len_cons len_nil))) (a3_nil)) (len_cons len_nil)))) (w3_or1 (t3_not (t3_val (p3_fn h_m_law_right hr (by decide) rfl (a3_cons (p3_var 3) (a3_nil)) (len_cons len_nil))))))) ?_ ?_
    · refine ss3_one ?_
      exact s3_ret (p3_bl)
    · exact (ss3_nil)
  refine ss3_cons ?_ ?_
  · with_reducible exact s3_set 7 (by with_unfolding_all exact sc.nd) (p3_lst (a3_cons (p3_non) (a3_cons (p3_bl) (a3_cons (p3_int) (a3_cons (p3_int) (a3_cons (p3_str) (a3_cons (p3_str) (a3_cons (p3_lst (a3_nil)) (a3_cons (p3_tup (a3_nil)) (a3_cons (p3_dict0) (a3_cons (p3_tup (a3_cons (p3_int) (a3_nil) (by with_unfolding_all rfl))) (a3_cons (p3_tup (a3_cons (p3_int) (a3_cons (p3_tup (a3_nil)) (a3_nil) (by with_unfolding_all rfl)) (by with_unfolding_all rfl))) (a3_cons (p3_tup (a3_cons (p3_int) (a3_cons (p3_tup (a3_cons (p3_tup (a3_cons (p3_tup (a3_cons (p3_non) (a3_cons (p3_non) (a3_nil) (by with_unfolding_all rfl)) (by with_unfolding_all rfl))) (a3_nil) (by with_unfolding_all rfl))) (a3_nil) (by with_unfolding_all rfl))) (a3_nil) (by with_unfolding_all rfl)) (by with_unfolding_all rfl))) (a3_cons (p3_tup (a3_cons (p3_int) (a3_cons (p3_tup (a3_cons (p3_tup (a3_nil)) (a3_nil) (by with_unfolding_all rfl))) (a3_nil) (by with_unfolding_all rfl)) (by with_unfolding_all rfl))) (a3_cons (p3_lst (a3_cons (p3_int) (a3_cons (p3_int) (a3_nil) (by with_unfolding_all rfl)) (by with_unfolding_all rfl))) (a3_nil) (by with_unfolding_all rfl)) (by with_unfolding_all rfl)) (by with_unfolding_all rfl)) (by with_unfolding_all rfl)) (by with_unfolding_all rfl)) (by with_unfolding_all rfl)) (by with_unfolding_all rfl)) (by with_unfolding_all rfl)) (by with_unfolding_all rfl)) (by with_unfolding_all rfl)) (by with_unfolding_all rfl)) (by with_unfolding_all rfl)) (by with_unfolding_all rfl)) (by with_unfolding_all rfl))) (by with_unfolding_all rfl) (by with_unfolding_all first | exact Or.inl rfl | exact Or.inr rfl) (by with_unfolding_all rfl) (by with_unfolding_all first | exact .inl rfl | exact .inr rfl)
  refine ss3_cons ?_ ?_
  · refine s3_for PassesOwn.never rfl (p3_var 7) (g3_name 8 sc.nd) ?_
    refine ss3_one ?_
    refine s3_if (t3_not (t3_val (p3_fn h_m_law_right hr (by decide) rfl (a3_cons (p3_var 8) (a3_nil)) (len_cons len_nil)))) ?_ ?_
    · refine ss3_one ?_
      exact s3_ret (p3_bl)
    · exact (ss3_nil)
  refine ss3_one ?_
  exact s3_ret (p3_fn h_m_law_right hr (by decide) rfl (a3_cons (p3_fn h_m_law_deep hr (by decide) rfl (a3_cons (p3_var 1) (a3_nil)) (len_cons len_nil)) (a3_nil)) (len_cons len_nil))
end
theorem all_mk {l : PySem.W.OpenLaw} {w : World} {K : PySem.W.Frag} {h : Heap} {mg : Str → Option Value} {fa : Addr} (X : K.In h) (G : h.Ns mainGlobals mg) (hfa : mg "law" = some (.ref fa)) {f0 f1 f2 f3 f4 f5 f6 f7 f8 f9 f10 f11 f12 f13 f14 f15 f16 f17 : Addr}
    {od0 an0 : Option Addr} {sl0 : Array (Option Value)} {oc0 kV0 dc0 pm0 cd0 ct0 : Value}
    {od1 an1 : Option Addr} {sl1 : Array (Option Value)} {oc1 kV1 dc1 pm1 cd1 ct1 : Value}
    {od2 an2 : Option Addr} {sl2 : Array (Option Value)} {oc2 kV2 dc2 pm2 cd2 ct2 : Value}
    {od3 an3 : Option Addr} {sl3 : Array (Option Value)} {oc3 kV3 dc3 pm3 cd3 ct3 : Value}
    {od4 an4 : Option Addr} {sl4 : Array (Option Value)} {oc4 kV4 dc4 pm4 cd4 ct4 : Value}
    {od5 an5 : Option Addr} {sl5 : Array (Option Value)} {oc5 kV5 dc5 pm5 cd5 ct5 : Value}
    {od6 an6 : Option Addr} {sl6 : Array (Option Value)} {oc6 kV6 dc6 pm6 cd6 ct6 : Value}
    {od7 an7 : Option Addr} {sl7 : Array (Option Value)} {oc7 kV7 dc7 pm7 cd7 ct7 : Value}
    {od8 an8 : Option Addr} {sl8 : Array (Option Value)} {oc8 kV8 dc8 pm8 cd8 ct8 : Value}
    {od9 an9 : Option Addr} {sl9 : Array (Option Value)} {oc9 kV9 dc9 pm9 cd9 ct9 : Value}
    {od10 an10 : Option Addr} {sl10 : Array (Option Value)} {oc10 kV10 dc10 pm10 cd10 ct10 : Value}
    {od11 an11 : Option Addr} {sl11 : Array (Option Value)} {oc11 kV11 dc11 pm11 cd11 ct11 : Value}
    {od12 an12 : Option Addr} {sl12 : Array (Option Value)} {oc12 kV12 dc12 pm12 cd12 ct12 : Value}
    {od13 an13 : Option Addr} {sl13 : Array (Option Value)} {oc13 kV13 dc13 pm13 cd13 ct13 : Value}
    {od14 an14 : Option Addr} {sl14 : Array (Option Value)} {oc14 kV14 dc14 pm14 cd14 ct14 : Value}
    {od15 an15 : Option Addr} {sl15 : Array (Option Value)} {oc15 kV15 dc15 pm15 cd15 ct15 : Value}
    {od16 an16 : Option Addr} {sl16 : Array (Option Value)} {oc16 kV16 dc16 pm16 cd16 ct16 : Value}
    {od17 an17 : Option Addr} {sl17 : Array (Option Value)} {oc17 kV17 dc17 pm17 cd17 ct17 : Value}
    (a0 : PySem.W.nsIn K mainGlobals "_law_is_upto" = some (some (.ref f0))) (l0 : K.lookup f0 = some ⟨oc0, od0, .func (PySem.W.fnOf "_law_is_upto" "_law_is_upto" (defArgs (top bd 13)) (defBody (top bd 13)) (defScope (top bd 13)) .none kV0 dc0 pm0 an0 cd0 ct0), sl0⟩) (c0 : PySem.W.codeIn K cd0 "_law_is_upto" = true) (k0 : PySem.W.keepIn K (.ref f0) = true)
    (a1 : PySem.W.nsIn K mainGlobals "_law_is_cell" = some (some (.ref f1))) (l1 : K.lookup f1 = some ⟨oc1, od1, .func (PySem.W.fnOf "_law_is_cell" "_law_is_cell" (defArgs (top bd 14)) (defBody (top bd 14)) (defScope (top bd 14)) .none kV1 dc1 pm1 an1 cd1 ct1), sl1⟩) (c1 : PySem.W.codeIn K cd1 "_law_is_cell" = true) (k1 : PySem.W.keepIn K (.ref f1) = true)
    (a2 : PySem.W.nsIn K mainGlobals "_law_due" = some (some (.ref f2))) (l2 : K.lookup f2 = some ⟨oc2, od2, .func (PySem.W.fnOf "_law_due" "_law_due" (defArgs (top bd 15)) (defBody (top bd 15)) (defScope (top bd 15)) .none kV2 dc2 pm2 an2 cd2 ct2), sl2⟩) (c2 : PySem.W.codeIn K cd2 "_law_due" = true) (k2 : PySem.W.keepIn K (.ref f2) = true)
    (a3 : PySem.W.nsIn K mainGlobals "is_below" = some (some (.ref f3))) (l3 : K.lookup f3 = some ⟨oc3, od3, .func (PySem.W.fnOf "is_below" "is_below" (defArgs (top bd 4)) (defBody (top bd 4)) (defScope (top bd 4)) .none kV3 dc3 pm3 an3 cd3 ct3), sl3⟩) (c3 : PySem.W.codeIn K cd3 "is_below" = true) (k3 : PySem.W.keepIn K (.ref f3) = true)
    (a4 : PySem.W.nsIn K mainGlobals "is_cell" = some (some (.ref f4))) (l4 : K.lookup f4 = some ⟨oc4, od4, .func (PySem.W.fnOf "is_cell" "is_cell" (defArgs (top bd 7)) (defBody (top bd 7)) (defScope (top bd 7)) .none kV4 dc4 pm4 an4 cd4 ct4), sl4⟩) (c4 : PySem.W.codeIn K cd4 "is_cell" = true) (k4 : PySem.W.keepIn K (.ref f4) = true)
    (a5 : PySem.W.nsIn K mainGlobals "is_room" = some (some (.ref f5))) (l5 : K.lookup f5 = some ⟨oc5, od5, .func (PySem.W.fnOf "is_room" "is_room" (defArgs (top bd 6)) (defBody (top bd 6)) (defScope (top bd 6)) .none kV5 dc5 pm5 an5 cd5 ct5), sl5⟩) (c5 : PySem.W.codeIn K cd5 "is_room" = true) (k5 : PySem.W.keepIn K (.ref f5) = true)
    (a6 : PySem.W.nsIn K mainGlobals "is_machine" = some (some (.ref f6))) (l6 : K.lookup f6 = some ⟨oc6, od6, .func (PySem.W.fnOf "is_machine" "is_machine" (defArgs (top bd 5)) (defBody (top bd 5)) (defScope (top bd 5)) .none kV6 dc6 pm6 an6 cd6 ct6), sl6⟩) (c6 : PySem.W.codeIn K cd6 "is_machine" = true) (k6 : PySem.W.keepIn K (.ref f6) = true)
    (a7 : PySem.W.nsIn K mainGlobals "_law_right" = some (some (.ref f7))) (l7 : K.lookup f7 = some ⟨oc7, od7, .func (PySem.W.fnOf "_law_right" "_law_right" (defArgs (top bd 21)) (defBody (top bd 21)) (defScope (top bd 21)) .none kV7 dc7 pm7 an7 cd7 ct7), sl7⟩) (c7 : PySem.W.codeIn K cd7 "_law_right" = true) (k7 : PySem.W.keepIn K (.ref f7) = true)
    (a8 : PySem.W.nsIn K mainGlobals "_law_take" = some (some (.ref f8))) (l8 : K.lookup f8 = some ⟨oc8, od8, .func (PySem.W.fnOf "_law_take" "_law_take" (defArgs (top bd 9)) (defBody (top bd 9)) (defScope (top bd 9)) .none kV8 dc8 pm8 an8 cd8 ct8), sl8⟩) (c8 : PySem.W.codeIn K cd8 "_law_take" = true) (k8 : PySem.W.keepIn K (.ref f8) = true)
    (a9 : PySem.W.nsIn K mainGlobals "_law_deep" = some (some (.ref f9))) (l9 : K.lookup f9 = some ⟨oc9, od9, .func (PySem.W.fnOf "_law_deep" "_law_deep" (defArgs (top bd 16)) (defBody (top bd 16)) (defScope (top bd 16)) .none kV9 dc9 pm9 an9 cd9 ct9), sl9⟩) (c9 : PySem.W.codeIn K cd9 "_law_deep" = true) (k9 : PySem.W.keepIn K (.ref f9) = true)
    (a10 : PySem.W.nsIn K mainGlobals "_law_put" = some (some (.ref f10))) (l10 : K.lookup f10 = some ⟨oc10, od10, .func (PySem.W.fnOf "_law_put" "_law_put" (defArgs (top bd 18)) (defBody (top bd 18)) (defScope (top bd 18)) .none kV10 dc10 pm10 an10 cd10 ct10), sl10⟩) (c10 : PySem.W.codeIn K cd10 "_law_put" = true) (k10 : PySem.W.keepIn K (.ref f10) = true)
    (a11 : PySem.W.nsIn K mainGlobals "_law_other" = some (some (.ref f11))) (l11 : K.lookup f11 = some ⟨oc11, od11, .func (PySem.W.fnOf "_law_other" "_law_other" (defArgs (top bd 17)) (defBody (top bd 17)) (defScope (top bd 17)) .none kV11 dc11 pm11 an11 cd11 ct11), sl11⟩) (c11 : PySem.W.codeIn K cd11 "_law_other" = true) (k11 : PySem.W.keepIn K (.ref f11) = true)
    (a12 : PySem.W.nsIn K mainGlobals "_law_row_bent" = some (some (.ref f12))) (l12 : K.lookup f12 = some ⟨oc12, od12, .func (PySem.W.fnOf "_law_row_bent" "_law_row_bent" (defArgs (top bd 19)) (defBody (top bd 19)) (defScope (top bd 19)) .none kV12 dc12 pm12 an12 cd12 ct12), sl12⟩) (c12 : PySem.W.codeIn K cd12 "_law_row_bent" = true) (k12 : PySem.W.keepIn K (.ref f12) = true)
    (a13 : PySem.W.nsIn K mainGlobals "_law_bent" = some (some (.ref f13))) (l13 : K.lookup f13 = some ⟨oc13, od13, .func (PySem.W.fnOf "_law_bent" "_law_bent" (defArgs (top bd 20)) (defBody (top bd 20)) (defScope (top bd 20)) .none kV13 dc13 pm13 an13 cd13 ct13), sl13⟩) (c13 : PySem.W.codeIn K cd13 "_law_bent" = true) (k13 : PySem.W.keepIn K (.ref f13) = true)
    (a14 : PySem.W.nsIn K mainGlobals "_law_near" = some (some (.ref f14))) (l14 : K.lookup f14 = some ⟨oc14, od14, .func (PySem.W.fnOf "_law_near" "_law_near" (defArgs (top bd 11)) (defBody (top bd 11)) (defScope (top bd 11)) .none kV14 dc14 pm14 an14 cd14 ct14), sl14⟩) (c14 : PySem.W.codeIn K cd14 "_law_near" = true) (k14 : PySem.W.keepIn K (.ref f14) = true)
    (a15 : PySem.W.nsIn K mainGlobals "_law_cell" = some (some (.ref f15))) (l15 : K.lookup f15 = some ⟨oc15, od15, .func (PySem.W.fnOf "_law_cell" "_law_cell" (defArgs (top bd 10)) (defBody (top bd 10)) (defScope (top bd 10)) .none kV15 dc15 pm15 an15 cd15 ct15), sl15⟩) (c15 : PySem.W.codeIn K cd15 "_law_cell" = true) (k15 : PySem.W.keepIn K (.ref f15) = true)
    (a16 : PySem.W.nsIn K mainGlobals "_law_machine" = some (some (.ref f16))) (l16 : K.lookup f16 = some ⟨oc16, od16, .func (PySem.W.fnOf "_law_machine" "_law_machine" (defArgs (top bd 12)) (defBody (top bd 12)) (defScope (top bd 12)) .none kV16 dc16 pm16 an16 cd16 ct16), sl16⟩) (c16 : PySem.W.codeIn K cd16 "_law_machine" = true) (k16 : PySem.W.keepIn K (.ref f16) = true)
    (a17 : PySem.W.nsIn K mainGlobals "law" = some (some (.ref f17))) (l17 : K.lookup f17 = some ⟨oc17, od17, .func (PySem.W.fnOf "law" "law" (defArgs (top bd 22)) (defBody (top bd 22)) (defScope (top bd 22)) .none kV17 dc17 pm17 an17 cd17 ct17), sl17⟩) (c17 : PySem.W.codeIn K cd17 "law" = true) (k17 : PySem.W.keepIn K (.ref f17) = true)
    (z_isinstance : PySem.W.nsIn K mainGlobals "isinstance" = some none)
    (z_int : PySem.W.nsIn K mainGlobals "int" = some none)
    (z_bool : PySem.W.nsIn K mainGlobals "bool" = some none)
    (z_tuple : PySem.W.nsIn K mainGlobals "tuple" = some none)
    (z_len : PySem.W.nsIn K mainGlobals "len" = some none)
    (z_all : PySem.W.nsIn K mainGlobals "all" = some none)
    (z_repr : PySem.W.nsIn K mainGlobals "repr" = some none)
    (z_abs : PySem.W.nsIn K mainGlobals "abs" = some none)
    (z_range : PySem.W.nsIn K mainGlobals "range" = some none)
    (z_list : PySem.W.nsIn K mainGlobals "list" = some none)
    {t_ANSWERS : Tok} (c_ANSWERS : PySem.W.nsIn K mainGlobals "ANSWERS" = some (some (.int 8 t_ANSWERS)))
    {t_MOST_ROOMS : Tok} (c_MOST_ROOMS : PySem.W.nsIn K mainGlobals "MOST_ROOMS" = some (some (.int 24 t_MOST_ROOMS)))
    {t_MOST_ASKS : Tok} (c_MOST_ASKS : PySem.W.nsIn K mainGlobals "MOST_ASKS" = some (some (.int 4 t_MOST_ASKS))) :
    ∃ fd : FuncData, (∀ (s : Shared) (v : Value), BindsTo s fd ⟨[v], []⟩ [("_law_script", v)]) ∧ ∀ base : Heap, K.In base → base.Ns mainGlobals mg → FnOk l.prog w K mg base CX0 6 fa fd ["_law_script"] (sp3 K 1 m_law) := by
  have y_isinstance := PySem.W.mg_none_of X G z_isinstance
  have y_int := PySem.W.mg_none_of X G z_int
  have y_bool := PySem.W.mg_none_of X G z_bool
  have y_tuple := PySem.W.mg_none_of X G z_tuple
  have y_len := PySem.W.mg_none_of X G z_len
  have y_all := PySem.W.mg_none_of X G z_all
  have y_repr := PySem.W.mg_none_of X G z_repr
  have y_abs := PySem.W.mg_none_of X G z_abs
  have y_range := PySem.W.mg_none_of X G z_range
  have y_list := PySem.W.mg_none_of X G z_list
  have y_ANSWERS : ∃ t, mg "ANSWERS" = some (.int 8 t) := ⟨_, PySem.W.mg_of X G c_ANSWERS⟩
  have y_MOST_ROOMS : ∃ t, mg "MOST_ROOMS" = some (.int 24 t) := ⟨_, PySem.W.mg_of X G c_MOST_ROOMS⟩
  have y_MOST_ASKS : ∃ t, mg "MOST_ASKS" = some (.int 4 t) := ⟨_, PySem.W.mg_of X G c_MOST_ASKS⟩
  have e := hfa.symm.trans (PySem.W.mg_of X G a17)
  cases e
  have F0 := fun_mk (st := top bd 13) l0 c0 k0
  have F1 := fun_mk (st := top bd 14) l1 c1 k1
  have F2 := fun_mk (st := top bd 15) l2 c2 k2
  have F3 := fun_mk (st := top bd 4) l3 c3 k3
  have F4 := fun_mk (st := top bd 7) l4 c4 k4
  have F5 := fun_mk (st := top bd 6) l5 c5 k5
  have F6 := fun_mk (st := top bd 5) l6 c6 k6
  have F7 := fun_mk (st := top bd 21) l7 c7 k7
  have F8 := fun_mk (st := top bd 9) l8 c8 k8
  have F9 := fun_mk (st := top bd 16) l9 c9 k9
  have F10 := fun_mk (st := top bd 18) l10 c10 k10
  have F11 := fun_mk (st := top bd 17) l11 c11 k11
  have F12 := fun_mk (st := top bd 19) l12 c12 k12
  have F13 := fun_mk (st := top bd 20) l13 c13 k13
  have F14 := fun_mk (st := top bd 11) l14 c14 k14
  have F15 := fun_mk (st := top bd 10) l15 c15 k15
  have F16 := fun_mk (st := top bd 12) l16 c16 k16
  have F17 := fun_mk (st := top bd 22) l17 c17 k17
  refine ⟨PySem.W.fnOf "law" "law" (defArgs (top bd 22)) (defBody (top bd 22)) (defScope (top bd 22)) .none kV17 dc17 pm17 an17 cd17 ct17, fun s v => .of_eq rfl, fun base _ _ => ?_⟩
  have g0 : Has l.prog w K mg base "_law_is_upto" 1 2 m_law_is_upto := h_m_law_is_upto F0 (PySem.W.mg_of X G a0) y_isinstance y_int y_bool
  have g1 : Has l.prog w K mg base "_law_is_cell" 2 2 m_law_is_cell := h_m_law_is_cell F1 (PySem.W.mg_of X G a1) y_isinstance y_tuple y_len g0
  have g2 : Has l.prog w K mg base "_law_due" 3 1 m_law_due := h_m_law_due F2 (PySem.W.mg_of X G a2) y_len y_isinstance y_tuple g1 g0
  have g3 : Has l.prog w K mg base "is_below" 1 2 m_is_below := h_m_is_below F3 (PySem.W.mg_of X G a3) y_isinstance y_int y_bool
  have g4 : Has l.prog w K mg base "is_cell" 2 2 m_is_cell := h_m_is_cell F4 (PySem.W.mg_of X G a4) y_isinstance y_tuple y_len y_ANSWERS g3
  have g5 : Has l.prog w K mg base "is_room" 3 3 m_is_room := h_m_is_room F5 (PySem.W.mg_of X G a5) y_all y_isinstance y_tuple y_len g4
  have g6 : Has l.prog w K mg base "is_machine" 4 1 m_is_machine := h_m_is_machine F6 (PySem.W.mg_of X G a6) y_all y_len y_isinstance y_tuple y_MOST_ROOMS y_MOST_ASKS g5 g3
  have g7 : Has l.prog w K mg base "_law_right" 5 1 m_law_right := h_m_law_right F7 (PySem.W.mg_of X G a7) y_isinstance y_bool y_repr g2 g6
  have g8 : Has l.prog w K mg base "_law_take" 1 2 m_law_take := h_m_law_take F8 (PySem.W.mg_of X G a8) y_len y_abs
  have g9 : Has l.prog w K mg base "_law_deep" 2 1 m_law_deep := h_m_law_deep F9 (PySem.W.mg_of X G a9) y_range g8
  have g10 : Has l.prog w K mg base "_law_put" 1 3 m_law_put := h_m_law_put F10 (PySem.W.mg_of X G a10)
  have g11 : Has l.prog w K mg base "_law_other" 3 3 m_law_other := h_m_law_other F11 (PySem.W.mg_of X G a11) g9 g8
  have g12 : Has l.prog w K mg base "_law_row_bent" 2 2 m_law_row_bent := h_m_law_row_bent F12 (PySem.W.mg_of X G a12) y_list y_len g8
  have g13 : Has l.prog w K mg base "_law_bent" 4 2 m_law_bent := h_m_law_bent F13 (PySem.W.mg_of X G a13) y_len y_list g10 g11 g8 g12
  have g14 : Has l.prog w K mg base "_law_near" 2 4 m_law_near := h_m_law_near F14 (PySem.W.mg_of X G a14) y_tuple g8
  have g15 : Has l.prog w K mg base "_law_cell" 2 4 m_law_cell := h_m_law_cell F15 (PySem.W.mg_of X G a15) g8
  have g16 : Has l.prog w K mg base "_law_machine" 3 2 m_law_machine := h_m_law_machine F16 (PySem.W.mg_of X G a16) y_tuple y_range g8 g14 g15
  exact law_fn F17 y_range y_tuple g7 g9 g13 g2 g6 g16
theorem walk {l : PySem.W.OpenLaw} {q : Program} {loose : List Str} {XP : (Str → Option Value) → Heap → Prop} {YP : World → Heap → Prop} {d : DefRec} {K : Params → PySem.W.Frag} (hn : l.most = some 63) (hdf : d.params.defaults = [])
    (hY : ∀ (w : World) (h : Heap), YP w h → (K w.params).In h)
    (F : ∀ (w : World) (mg : Str → Option Value) (fa : Addr) (h : Heap), (K w.params).In h → h.Ns mainGlobals mg → mg d.name = some (.ref fa) →
      ∃ fd : FuncData, (∀ (s : Shared) (u : Value), BindsTo s fd ⟨[u], []⟩ [("_law_script", u)]) ∧ ∀ base : Heap, (K w.params).In base → base.Ns mainGlobals mg → FnOk l.prog w (K w.params) mg base CX0 6 fa fd ["_law_script"] (sp3 (K w.params) 1 m_law))
    (hlaw : ∀ ns : List Int, ns.length ≤ 63 → ∃ S', m_law [.ref 0] [.flst (ns.map D.int)] = some (.bl true, S')) :
    PySem.W.WalkO q loose XP YP l.row.toRowW d [] (fun f vs => PySem.call f vs) :=
  L2.walk_of (n := 63) (k := 6) (x := "_law_script") (CX := fun _ => CX0) (sp := fun w => sp3 (K w.params) 1 m_law) hn (by decide) hdf ⟨rfl, by decide, by decide, rfl⟩ hY F (fun _ _ a ns hl hO hS => law_sp hO hS (hlaw ns hl)) fun _ _ _ _ _ z => z
end G
end
set_option Elab.async false
set_option maxHeartbeats 4000000
set_option maxRecDepth 100000
namespace M
open PySem L3 G
def St (ns : List Int) (at' r : Int) (rest : Sto) : Sto := .flst (ns.map .int) :: .lst [.ref 0, .int at', .int r] :: rest
section
variable {ns : List Int} {a r x : Int} {rest : Sto} {o : Ob} {k : Nat}
theorem st_0 : lstOf (St ns a r rest) 0 = some (ns.map .int) := rfl
theorem st_1 : lstOf (St ns a r rest) 1 = some [.ref 0, .int a, .int r] := rfl
theorem st_2 : lstOf (St ns a r rest) (k + 2) = lstOf rest k := by unfold lstOf St; simp
theorem st_get : (St ns a r rest)[k + 2]? = rest[k]? := by unfold St; simp
theorem st_set : (St ns a r rest).set (k + 2) o = St ns a r (rest.set k o) := rfl
theorem st_push : St ns a r rest ++ [o] = St ns a r (rest ++ [o]) := rfl
theorem st_len : (St ns a r rest).length = rest.length + 2 := rfl
theorem st_w2 : setIx (.ref 1) (.int 2) (.int x) (St ns a r rest) = some (St ns a x rest) := rfl
theorem st_w1 : setIx (.ref 1) (.int 1) (.int x) (St ns a r rest) = some (St ns x r rest) := rfl
theorem at3_0 {α : Type} {x y z : α} : L2.atI [x, y, z] 0 = some x := rfl
theorem at3_1 {α : Type} {x y z : α} : L2.atI [x, y, z] 1 = some y := rfl
theorem at3_2 {α : Type} {x y z : α} : L2.atI [x, y, z] 2 = some z := rfl
theorem at2_0 {α : Type} {x y : α} : L2.atI [x, y] 0 = some x := rfl
theorem at2_1 {α : Type} {x y : α} : L2.atI [x, y] 1 = some y := rfl
theorem lstOf_last : lstOf (rest ++ [.lst xs]) rest.length = some xs := by unfold lstOf; rw [get_self]
theorem ex_some {α : Type} {x : α} {p : α → Prop} : (∃ d, (some (some x) : Option (Option α)) = some (some d) ∧ p d) = p x := by
  apply propext; constructor
  · rintro ⟨d, h, q⟩; cases h; exact q
  · exact fun q => ⟨x, rfl, q⟩
theorem ex_some1 {α : Type} {x : α} {p : α → Prop} : (∃ d, (some x : Option α) = some d ∧ p d) = p x := by
  apply propext; constructor
  · rintro ⟨d, h, q⟩; cases h; exact q
  · exact fun q => ⟨x, rfl, q⟩
theorem ex_bl {b : Bool} {p : Bool → Prop} : (∃ k, D.bl b = D.bl k ∧ p k) = p b := by
  apply propext; constructor
  · rintro ⟨d, h, q⟩; cases h; exact q
  · exact fun q => ⟨b, rfl, q⟩
theorem ex_int {b : Int} {p : Int → Prop} : (∃ k, ([D.int b] : List D) = [D.int k] ∧ p k) = p b := by
  apply propext; constructor
  · rintro ⟨d, h, q⟩; cases h; exact q
  · exact fun q => ⟨b, rfl, q⟩
end
abbrev primes : List D := [.int 2147483647, .int 2147483629, .int 2147483587, .int 2147483579, .int 2147483563, .int 2147483549, .int 2147483543]
theorem primes_at (i : Int) (h0 : 0 ≤ i) (h1 : i < 7) : ∃ p, L2.atI primes i = some (.int p) ∧ 0 < p ∧ p < 2147483648 := by
  have : i = 0 ∨ i = 1 ∨ i = 2 ∨ i = 3 ∨ i = 4 ∨ i = 5 ∨ i = 6 := by omega
  rcases this with rfl | rfl | rfl | rfl | rfl | rfl | rfl <;> exact ⟨_, rfl, by decide, by decide⟩
theorem atI_in {α : Type} (xs : List α) (i : Int) (h0 : 0 ≤ i) (h1 : i < xs.length) : ∃ x, L2.atI xs i = some x ∧ x ∈ xs := by
  have hl : i.toNat < xs.length := by omega
  refine ⟨xs[i.toNat], ?_, List.getElem_mem hl⟩
  unfold L2.atI L2.ixN
  rw [if_pos h0, if_pos h1]
  simp [hl]
theorem wo_times {i j : Int} {S : Sto} {Q : D → Sto → Prop} : Wo (dTimes (.int i) (.int j) S) Q = (((-(2 ^ 64) < i ∧ i < 2 ^ 64) ∨ (-(2 ^ 64) < j ∧ j < 2 ^ 64)) ∧ Q (.int (i * j)) S) := wo_ite
theorem take_ok (ns : List Int) (at' r m : Int) (rest : Sto) (ha : 0 ≤ at') (hb : at' < 1000000000) (hr : 0 ≤ r) (hm : 0 < m) (hm2 : m < 1073741824) :
    Wo (m_law_take [.ref 1, .int m] (St ns at' r rest)) fun v S => ∃ d at2 r2 ex, v = .int d ∧ 0 ≤ d ∧ d < m ∧ S = St ns at2 r2 (rest ++ ex) ∧ 0 ≤ at2 ∧ at2 ≤ at' + 1 ∧ 0 ≤ r2 := by
  obtain ⟨p1, hp1, p1a, p1b⟩ := primes_at (at' % 7) (by omega) (by omega)
  obtain ⟨p2, hp2, p2a, p2b⟩ := primes_at ((at' + 3) % 7) (by omega) (by omega)
  have sz : 7 ≤ sizeLine := by decide
  have f5 : (0 : Int) ≤ 18 ∧ (18 : Int) ≤ 1000000 ∧ Int.natAbs 10 < 2 ^ 64 := by decide
  have f7 : (0 : Int) < 7 := by decide
  unfold m_law_take b_law_take
  by_cases hr0 : 0 < r
  · simp only [wo_run, ws_seq, ws_if, wt_e, we_op, we_un, we_var, we_c, ws_asg, ws_ret, ws_drop, ws_next, ws_break, ws_cont, wg_name, wg_sub, wg_tup, wg_nil, wg_cons, we_call, we_methL, wa_cons, wa_nil, wt_and, wt_or, wt_not, we_and, we_or, we_not, we_if, wo_I0, wo_I, wo_plus, wo_ixT, wo_ixL, wo_lenT, wo_lenL, wo_abs, wo_intB, wo_tup, wo_lst, wo_tupleL, wo_eqI, wo_eqB, wo_neS, wo_is, wo_isnot, List.map_cons, List.map_nil, List.length_cons, List.length_nil, Nat.reduceAdd, Nat.reduceSub, List.replicate, List.cons_append, List.nil_append, List.getElem?_cons_zero, List.getElem?_cons_succ, List.set_cons_zero, List.set_cons_succ, ex_some, ex_some1, ex_bl, ex_int, st_0, st_1, st_w1, st_w2, at3_0, at3_1, at3_2, at2_0, at2_1, st_push, st_len, st_2, lstOf_last, wo_times, decide_eq_true_eq, hr0, hm, hm2, if_true, true_and, and_self]
    exact ⟨_, at', r / m, [], rfl, Int.emod_nonneg _ (by omega), Int.emod_lt_of_pos _ hm, by rw [List.append_nil], ha, by omega, Int.ediv_nonneg hr (by omega)⟩
  · have r0 : r = 0 := by omega
    subst r0
    simp only [wo_run, List.map_cons, List.map_nil, List.length_cons, List.length_nil, Nat.reduceAdd, Nat.reduceSub, List.replicate, List.cons_append, List.nil_append]
    refine ws_cut (fun l S => l = [some (.ref 1), some (.int m), none, none, none, none, none, none] ∧ S = St ns at' 0 rest) (by simp only [wo_run, ws_seq, ws_if, wt_e, we_op, we_un, we_var, we_c, ws_asg, ws_ret, ws_drop, ws_next, ws_break, ws_cont, wg_name, wg_sub, wg_tup, wg_nil, wg_cons, we_call, we_methL, wa_cons, wa_nil, wt_and, wt_or, wt_not, we_and, we_or, we_not, we_if, wo_I0, wo_I, wo_plus, wo_ixT, wo_ixL, wo_lenT, wo_lenL, wo_abs, wo_intB, wo_tup, wo_lst, wo_tupleL, wo_eqI, wo_eqB, wo_neS, wo_is, wo_isnot, List.map_cons, List.map_nil, List.length_cons, List.length_nil, Nat.reduceAdd, Nat.reduceSub, List.replicate, List.cons_append, List.nil_append, List.getElem?_cons_zero, List.getElem?_cons_succ, List.set_cons_zero, List.set_cons_succ, ex_some, ex_some1, ex_bl, ex_int, st_0, st_1, st_w1, st_w2, at3_0, at3_1, at3_2, at2_0, at2_1, st_push, st_len, st_2, lstOf_last, decide_eq_true_eq, hr0, if_false, and_self]) ?_
    rintro l S ⟨rfl, rfl⟩
    refine ws_cut (fun l S => l = [some (.ref 1), some (.int m), none, some (.int at'), none, none, none, none] ∧ S = St ns at' 0 rest) (by simp only [wo_run, ws_seq, ws_if, wt_e, we_op, we_un, we_var, we_c, ws_asg, ws_ret, ws_drop, ws_next, ws_break, ws_cont, wg_name, wg_sub, wg_tup, wg_nil, wg_cons, we_call, we_methL, wa_cons, wa_nil, wt_and, wt_or, wt_not, we_and, we_or, we_not, we_if, wo_I0, wo_I, wo_plus, wo_ixT, wo_ixL, wo_lenT, wo_lenL, wo_abs, wo_intB, wo_tup, wo_lst, wo_tupleL, wo_eqI, wo_eqB, wo_neS, wo_is, wo_isnot, List.map_cons, List.map_nil, List.length_cons, List.length_nil, Nat.reduceAdd, Nat.reduceSub, List.replicate, List.cons_append, List.nil_append, List.getElem?_cons_zero, List.getElem?_cons_succ, List.set_cons_zero, List.set_cons_succ, ex_some, ex_some1, ex_bl, ex_int, st_0, st_1, st_w1, st_w2, at3_0, at3_1, at3_2, at2_0, at2_1, st_push, st_len, st_2, lstOf_last, and_self]) ?_
    rintro l S ⟨rfl, rfl⟩
    refine ws_cut (fun l S => l = [some (.ref 1), some (.int m), none, some (.int at'), none, none, none, none] ∧ S = St ns (at' + 1) 0 rest) (by simp only [wo_run, ws_seq, ws_if, wt_e, we_op, we_un, we_var, we_c, ws_asg, ws_ret, ws_drop, ws_next, ws_break, ws_cont, wg_name, wg_sub, wg_tup, wg_nil, wg_cons, we_call, we_methL, wa_cons, wa_nil, wt_and, wt_or, wt_not, we_and, we_or, we_not, we_if, wo_I0, wo_I, wo_plus, wo_ixT, wo_ixL, wo_lenT, wo_lenL, wo_abs, wo_intB, wo_tup, wo_lst, wo_tupleL, wo_eqI, wo_eqB, wo_neS, wo_is, wo_isnot, List.map_cons, List.map_nil, List.length_cons, List.length_nil, Nat.reduceAdd, Nat.reduceSub, List.replicate, List.cons_append, List.nil_append, List.getElem?_cons_zero, List.getElem?_cons_succ, List.set_cons_zero, List.set_cons_succ, ex_some, ex_some1, ex_bl, ex_int, st_0, st_1, st_w1, st_w2, at3_0, at3_1, at3_2, at2_0, at2_1, st_push, st_len, st_2, lstOf_last, and_self]) ?_
    rintro l S ⟨rfl, rfl⟩
    refine ws_cut (fun l S => l = [some (.ref 1), some (.int m), none, some (.int at'), some (.int 7), none, none, none] ∧ S = St ns (at' + 1) 0 rest) (by simp only [wo_run, ws_seq, ws_if, wt_e, we_op, we_un, we_var, we_c, ws_asg, ws_ret, ws_drop, ws_next, ws_break, ws_cont, wg_name, wg_sub, wg_tup, wg_nil, wg_cons, we_call, we_methL, wa_cons, wa_nil, wt_and, wt_or, wt_not, we_and, we_or, we_not, we_if, wo_I0, wo_I, wo_plus, wo_ixT, wo_ixL, wo_lenT, wo_lenL, wo_abs, wo_intB, wo_tup, wo_lst, wo_tupleL, wo_eqI, wo_eqB, wo_neS, wo_is, wo_isnot, List.map_cons, List.map_nil, List.length_cons, List.length_nil, Nat.reduceAdd, Nat.reduceSub, List.replicate, List.cons_append, List.nil_append, List.getElem?_cons_zero, List.getElem?_cons_succ, List.set_cons_zero, List.set_cons_succ, ex_some, ex_some1, ex_bl, ex_int, st_0, st_1, st_w1, st_w2, at3_0, at3_1, at3_2, at2_0, at2_1, st_push, st_len, st_2, lstOf_last, and_self]) ?_
    rintro l S ⟨rfl, rfl⟩
    refine ws_cut (fun l S => ∃ c, l = [some (.ref 1), some (.int m), none, some (.int at'), some (.int c), none, none, none] ∧ S = St ns (at' + 1) 0 rest) ?_ ?_
    · by_cases hl : 0 < (ns.length : Int)
      · obtain ⟨x, h1, h2⟩ := atI_in (ns.map D.int) (at' % (ns.length : Int)) (Int.emod_nonneg _ (by omega)) (by rw [List.length_map]; exact Int.emod_lt_of_pos _ hl)
        obtain ⟨c, _, rfl⟩ := List.mem_map.mp h2
        simp only [wo_run, ws_seq, ws_if, wt_e, we_op, we_un, we_var, we_c, ws_asg, ws_ret, ws_drop, ws_next, ws_break, ws_cont, wg_name, wg_sub, wg_tup, wg_nil, wg_cons, we_call, we_methL, wa_cons, wa_nil, wt_and, wt_or, wt_not, we_and, we_or, we_not, we_if, wo_I0, wo_I, wo_plus, wo_ixT, wo_ixL, wo_lenT, wo_lenL, wo_abs, wo_intB, wo_tup, wo_lst, wo_tupleL, wo_eqI, wo_eqB, wo_neS, wo_is, wo_isnot, List.map_cons, List.map_nil, List.length_cons, List.length_nil, Nat.reduceAdd, Nat.reduceSub, List.replicate, List.cons_append, List.nil_append, List.getElem?_cons_zero, List.getElem?_cons_succ, List.set_cons_zero, List.set_cons_succ, ex_some, ex_some1, ex_bl, ex_int, st_0, st_1, st_w1, st_w2, at3_0, at3_1, at3_2, at2_0, at2_1, st_push, st_len, st_2, lstOf_last, decide_eq_true_eq, hl, h1, List.length_map, if_true, true_and, and_self]
        exact ⟨c, rfl, (by first | rfl | trivial)⟩
      · simp only [wo_run, ws_seq, ws_if, wt_e, we_op, we_un, we_var, we_c, ws_asg, ws_ret, ws_drop, ws_next, ws_break, ws_cont, wg_name, wg_sub, wg_tup, wg_nil, wg_cons, we_call, we_methL, wa_cons, wa_nil, wt_and, wt_or, wt_not, we_and, we_or, we_not, we_if, wo_I0, wo_I, wo_plus, wo_ixT, wo_ixL, wo_lenT, wo_lenL, wo_abs, wo_intB, wo_tup, wo_lst, wo_tupleL, wo_eqI, wo_eqB, wo_neS, wo_is, wo_isnot, List.map_cons, List.map_nil, List.length_cons, List.length_nil, Nat.reduceAdd, Nat.reduceSub, List.replicate, List.cons_append, List.nil_append, List.getElem?_cons_zero, List.getElem?_cons_succ, List.set_cons_zero, List.set_cons_succ, ex_some, ex_some1, ex_bl, ex_int, st_0, st_1, st_w1, st_w2, at3_0, at3_1, at3_2, at2_0, at2_1, st_push, st_len, st_2, lstOf_last, decide_eq_true_eq, hl, List.length_map, if_false, true_and, and_true]
        exact ⟨7, rfl⟩
    rintro l S ⟨c, rfl, rfl⟩
    by_cases hc : at' < (ns.length : Int) ∧ 10 ^ Int.toNat 18 ≤ (if c < 0 then -c else c)
    · obtain ⟨hc1, hc2⟩ := hc
      simp only [wo_run, ws_seq, ws_if, wt_e, we_op, we_un, we_var, we_c, ws_asg, ws_ret, ws_drop, ws_next, ws_break, ws_cont, wg_name, wg_sub, wg_tup, wg_nil, wg_cons, we_call, we_methL, wa_cons, wa_nil, wt_and, wt_or, wt_not, we_and, we_or, we_not, we_if, wo_I0, wo_I, wo_plus, wo_ixT, wo_ixL, wo_lenT, wo_lenL, wo_abs, wo_intB, wo_tup, wo_lst, wo_tupleL, wo_eqI, wo_eqB, wo_neS, wo_is, wo_isnot, List.map_cons, List.map_nil, List.length_cons, List.length_nil, Nat.reduceAdd, Nat.reduceSub, List.replicate, List.cons_append, List.nil_append, List.getElem?_cons_zero, List.getElem?_cons_succ, List.set_cons_zero, List.set_cons_succ, ex_some, ex_some1, ex_bl, ex_int, st_0, st_1, st_w1, st_w2, at3_0, at3_1, at3_2, at2_0, at2_1, st_push, st_len, st_2, lstOf_last, decide_eq_true_eq, hc1, hc2, List.length_map, hm, hm2, if_true, true_and, and_self, f5]
      exact ⟨_, at' + 1, _, [], rfl, Int.emod_nonneg _ (by omega), Int.emod_lt_of_pos _ hm, by rw [List.append_nil], by omega, by omega, Int.ediv_nonneg (by split <;> omega) (by omega)⟩
    refine ws_cut (fun l S => l = [some (.ref 1), some (.int m), none, some (.int at'), some (.int c), none, none, none] ∧ S = St ns (at' + 1) 0 rest) ?_ ?_
    · by_cases hc1 : at' < (ns.length : Int)
      · have hc2 : ¬ 10 ^ Int.toNat 18 ≤ (if c < 0 then -c else c) := fun h => hc ⟨hc1, h⟩
        simp only [wo_run, ws_seq, ws_if, wt_e, we_op, we_un, we_var, we_c, ws_asg, ws_ret, ws_drop, ws_next, ws_break, ws_cont, wg_name, wg_sub, wg_tup, wg_nil, wg_cons, we_call, we_methL, wa_cons, wa_nil, wt_and, wt_or, wt_not, we_and, we_or, we_not, we_if, wo_I0, wo_I, wo_plus, wo_ixT, wo_ixL, wo_lenT, wo_lenL, wo_abs, wo_intB, wo_tup, wo_lst, wo_tupleL, wo_eqI, wo_eqB, wo_neS, wo_is, wo_isnot, List.map_cons, List.map_nil, List.length_cons, List.length_nil, Nat.reduceAdd, Nat.reduceSub, List.replicate, List.cons_append, List.nil_append, List.getElem?_cons_zero, List.getElem?_cons_succ, List.set_cons_zero, List.set_cons_succ, ex_some, ex_some1, ex_bl, ex_int, st_0, st_1, st_w1, st_w2, at3_0, at3_1, at3_2, at2_0, at2_1, st_push, st_len, st_2, lstOf_last, decide_eq_true_eq, hc1, hc2, List.length_map, if_true, if_false, true_and, and_self, f5]
      · simp only [wo_run, ws_seq, ws_if, wt_e, we_op, we_un, we_var, we_c, ws_asg, ws_ret, ws_drop, ws_next, ws_break, ws_cont, wg_name, wg_sub, wg_tup, wg_nil, wg_cons, we_call, we_methL, wa_cons, wa_nil, wt_and, wt_or, wt_not, we_and, we_or, we_not, we_if, wo_I0, wo_I, wo_plus, wo_ixT, wo_ixL, wo_lenT, wo_lenL, wo_abs, wo_intB, wo_tup, wo_lst, wo_tupleL, wo_eqI, wo_eqB, wo_neS, wo_is, wo_isnot, List.map_cons, List.map_nil, List.length_cons, List.length_nil, Nat.reduceAdd, Nat.reduceSub, List.replicate, List.cons_append, List.nil_append, List.getElem?_cons_zero, List.getElem?_cons_succ, List.set_cons_zero, List.set_cons_succ, ex_some, ex_some1, ex_bl, ex_int, st_0, st_1, st_w1, st_w2, at3_0, at3_1, at3_2, at2_0, at2_1, st_push, st_len, st_2, lstOf_last, decide_eq_true_eq, hc1, List.length_map, if_false, true_and, and_self, Bool.false_eq_true]
    rintro l S ⟨rfl, rfl⟩
    refine ws_cut (fun l S => l = [some (.ref 1), some (.int m), none, some (.int at'), some (.int c), some (.ref (rest.length + 2)), none, none] ∧ S = St ns (at' + 1) 0 (rest ++ [.lst primes])) (by simp only [wo_run, ws_seq, ws_if, wt_e, we_op, we_un, we_var, we_c, ws_asg, ws_ret, ws_drop, ws_next, ws_break, ws_cont, wg_name, wg_sub, wg_tup, wg_nil, wg_cons, we_call, we_methL, wa_cons, wa_nil, wt_and, wt_or, wt_not, we_and, we_or, we_not, we_if, wo_I0, wo_I, wo_plus, wo_ixT, wo_ixL, wo_lenT, wo_lenL, wo_abs, wo_intB, wo_tup, wo_lst, wo_tupleL, wo_eqI, wo_eqB, wo_neS, wo_is, wo_isnot, List.map_cons, List.map_nil, List.length_cons, List.length_nil, Nat.reduceAdd, Nat.reduceSub, List.replicate, List.cons_append, List.nil_append, List.getElem?_cons_zero, List.getElem?_cons_succ, List.set_cons_zero, List.set_cons_succ, ex_some, ex_some1, ex_bl, ex_int, st_0, st_1, st_w1, st_w2, at3_0, at3_1, at3_2, at2_0, at2_1, st_push, st_len, st_2, lstOf_last, sz, and_self]) ?_
    rintro l S ⟨rfl, rfl⟩
    refine ws_cut (fun l S => l = [some (.ref 1), some (.int m), none, some (.int at'), some (.int c), some (.ref (rest.length + 2)), some (.int p1), none] ∧ S = St ns (at' + 1) 0 (rest ++ [.lst primes])) (by simp only [wo_run, ws_seq, ws_if, wt_e, we_op, we_un, we_var, we_c, ws_asg, ws_ret, ws_drop, ws_next, ws_break, ws_cont, wg_name, wg_sub, wg_tup, wg_nil, wg_cons, we_call, we_methL, wa_cons, wa_nil, wt_and, wt_or, wt_not, we_and, we_or, we_not, we_if, wo_I0, wo_I, wo_plus, wo_ixT, wo_ixL, wo_lenT, wo_lenL, wo_abs, wo_intB, wo_tup, wo_lst, wo_tupleL, wo_eqI, wo_eqB, wo_neS, wo_is, wo_isnot, List.map_cons, List.map_nil, List.length_cons, List.length_nil, Nat.reduceAdd, Nat.reduceSub, List.replicate, List.cons_append, List.nil_append, List.getElem?_cons_zero, List.getElem?_cons_succ, List.set_cons_zero, List.set_cons_succ, ex_some, ex_some1, ex_bl, ex_int, st_0, st_1, st_w1, st_w2, at3_0, at3_1, at3_2, at2_0, at2_1, st_push, st_len, st_2, lstOf_last, hp1, f7, decide_true, true_and, and_self]) ?_
    rintro l S ⟨rfl, rfl⟩
    have q1 : 0 ≤ c % p1 := Int.emod_nonneg _ (by omega)
    have q2 : c % p1 < p1 := Int.emod_lt_of_pos _ p1a
    have f1 : (-2 ^ 64 : Int) < 40009 ∧ (40009 : Int) < 2 ^ 64 := by decide
    have f4 : (-2 ^ 64 : Int) < 48271 ∧ (48271 : Int) < 2 ^ 64 := by decide
    refine ws_cut (fun l S => ∃ n1 : Int, n1.natAbs < 2 ^ 64 ∧ l = [some (.ref 1), some (.int m), none, some (.int at'), some (.int c), some (.ref (rest.length + 2)), some (.int p1), some (.int n1)] ∧ S = St ns (at' + 1) 0 (rest ++ [.lst primes])) ?_ ?_
    · simp only [wo_run, ws_seq, ws_if, wt_e, we_op, we_un, we_var, we_c, ws_asg, ws_ret, ws_drop, ws_next, ws_break, ws_cont, wg_name, wg_sub, wg_tup, wg_nil, wg_cons, we_call, we_methL, wa_cons, wa_nil, wt_and, wt_or, wt_not, we_and, we_or, we_not, we_if, wo_I0, wo_I, wo_plus, wo_ixT, wo_ixL, wo_lenT, wo_lenL, wo_abs, wo_intB, wo_tup, wo_lst, wo_tupleL, wo_eqI, wo_eqB, wo_neS, wo_is, wo_isnot, List.map_cons, List.map_nil, List.length_cons, List.length_nil, Nat.reduceAdd, Nat.reduceSub, List.replicate, List.cons_append, List.nil_append, List.getElem?_cons_zero, List.getElem?_cons_succ, List.set_cons_zero, List.set_cons_succ, ex_some, ex_some1, ex_bl, ex_int, st_0, st_1, st_w1, st_w2, at3_0, at3_1, at3_2, at2_0, at2_1, st_push, st_len, st_2, lstOf_last, wo_times, f1, f4, p1a, decide_true, true_or, or_true, true_and, and_true]
      have q3 := Int.emod_nonneg (c % p1 * 48271 + 40009 * at' + 21) (b := p1) (by omega)
      have q4 := Int.emod_lt_of_pos (c % p1 * 48271 + 40009 * at' + 21) p1a
      exact ⟨_, by omega, rfl⟩
    rintro l S ⟨n1, hn1, rfl, rfl⟩
    have f2 : (-2 ^ 64 : Int) < at' ∧ at' < 2 ^ 64 := by omega
    have f3 : (-2 ^ 64 : Int) < 69621 ∧ (69621 : Int) < 2 ^ 64 := by decide
    have f9 : (0 : Int) ≤ 3 ∧ (3 : Int) ≤ 1000000 ∧ n1.natAbs < 2 ^ 64 := ⟨by decide, by decide, hn1⟩
    refine ws_cut (fun l S => ∃ n2 : Int, l = [some (.ref 1), some (.int m), none, some (.int at'), some (.int c), some (.ref (rest.length + 2)), some (.int p1), some (.int n2)] ∧ S = St ns (at' + 1) 0 (rest ++ [.lst primes])) ?_ ?_
    · simp only [wo_run, ws_seq, ws_if, wt_e, we_op, we_un, we_var, we_c, ws_asg, ws_ret, ws_drop, ws_next, ws_break, ws_cont, wg_name, wg_sub, wg_tup, wg_nil, wg_cons, we_call, we_methL, wa_cons, wa_nil, wt_and, wt_or, wt_not, we_and, we_or, we_not, we_if, wo_I0, wo_I, wo_plus, wo_ixT, wo_ixL, wo_lenT, wo_lenL, wo_abs, wo_intB, wo_tup, wo_lst, wo_tupleL, wo_eqI, wo_eqB, wo_neS, wo_is, wo_isnot, List.map_cons, List.map_nil, List.length_cons, List.length_nil, Nat.reduceAdd, Nat.reduceSub, List.replicate, List.cons_append, List.nil_append, List.getElem?_cons_zero, List.getElem?_cons_succ, List.set_cons_zero, List.set_cons_succ, ex_some, ex_some1, ex_bl, ex_int, st_0, st_1, st_w1, st_w2, at3_0, at3_1, at3_2, at2_0, at2_1, st_push, st_len, st_2, lstOf_last, wo_times, f2, f3, f9, f7, hp2, p2a, decide_true, true_or, or_true, true_and, and_true]
      exact ⟨_, rfl⟩
    rintro l S ⟨n2, rfl, rfl⟩
    have f6 : (0 : Int) < 64 ∧ (64 : Int) < 1073741824 := by decide
    simp only [wo_run, ws_seq, ws_if, wt_e, we_op, we_un, we_var, we_c, ws_asg, ws_ret, ws_drop, ws_next, ws_break, ws_cont, wg_name, wg_sub, wg_tup, wg_nil, wg_cons, we_call, we_methL, wa_cons, wa_nil, wt_and, wt_or, wt_not, we_and, we_or, we_not, we_if, wo_I0, wo_I, wo_plus, wo_ixT, wo_ixL, wo_lenT, wo_lenL, wo_abs, wo_intB, wo_tup, wo_lst, wo_tupleL, wo_eqI, wo_eqB, wo_neS, wo_is, wo_isnot, List.map_cons, List.map_nil, List.length_cons, List.length_nil, Nat.reduceAdd, Nat.reduceSub, List.replicate, List.cons_append, List.nil_append, List.getElem?_cons_zero, List.getElem?_cons_succ, List.set_cons_zero, List.set_cons_succ, ex_some, ex_some1, ex_bl, ex_int, st_0, st_1, st_w1, st_w2, at3_0, at3_1, at3_2, at2_0, at2_1, st_push, st_len, st_2, lstOf_last, f6, hm, hm2, decide_true, true_and, and_self]
    exact ⟨_, at' + 1, 0, _, rfl, Int.emod_nonneg _ (by omega), Int.emod_lt_of_pos _ hm, rfl, by omega, by omega, by omega⟩
end M
set_option Elab.async false
set_option maxHeartbeats 4000000
set_option maxRecDepth 100000
namespace M
open PySem L3 G
def Pn (ns : List Int) (rest : Sto) (k : Int) (S : Sto) : Prop := ∃ at2 r2 ex, S = St ns at2 r2 (rest ++ ex) ∧ 0 ≤ at2 ∧ at2 ≤ k ∧ 0 ≤ r2
theorem take_pn (ns : List Int) (rest : Sto) (S : Sto) (k m : Int) (h : Pn ns rest k S) (hk : k < 1000000000) (hm : 0 < m) (hm2 : m < 1073741824) :
    Wo (m_law_take [.ref 1, .int m] S) fun v S' => (∃ d, v = .int d ∧ 0 ≤ d ∧ d < m) ∧ Pn ns rest (k + 1) S' := by
  obtain ⟨a, r, ex, rfl, h1, h2, h3⟩ := h
  refine (take_ok ns a r m (rest ++ ex) h1 (by omega) h3 hm hm2).mono ?_
  rintro v S' ⟨d, a2, r2, ex2, rfl, q1, q2, rfl, q3, q4, q5⟩
  exact ⟨⟨d, rfl, q1, q2⟩, a2, r2, ex ++ ex2, by rw [List.append_assoc], q3, by omega, q5⟩
theorem Pn.mono {ns : List Int} {rest : Sto} {k k' : Int} {S : Sto} (h : Pn ns rest k S) (hk : k ≤ k') : Pn ns rest k' S := by
  obtain ⟨a, r, ex, e, h1, h2, h3⟩ := h
  exact ⟨a, r, ex, e, h1, by omega, h3⟩
theorem Pn.start {ns : List Int} {rest ex : Sto} {k : Int} {S : Sto} (h : Pn ns (rest ++ ex) k S) : Pn ns rest k S := by
  obtain ⟨a, r, ex', e, h1, h2, h3⟩ := h
  exact ⟨a, r, ex ++ ex', by rw [e, List.append_assoc], h1, h2, h3⟩
def Or0 (many : Int) (g : D) : Prop := g = .non ∨ ∃ i, g = .int i ∧ 0 ≤ i ∧ i < many
def IsCell (many kinds : Int) (v : D) : Prop := ∃ g s, v = .tup [g, s] ∧ Or0 many g ∧ Or0 kinds s
theorem maybe (ns : List Int) (rest : Sto) (S : Sto) (k m sh : Int) (l : Lo) (i j : Nat) (h0 : l[0]? = some (some (.ref 1))) (h2 : l[2]? = some (some (.int sh))) (hi : l[i]? = some (some (.int m))) (h : Pn ns rest k S) (hk : k < 900000000) (hm : 0 < m) (hm2 : m < 1073741824) :
    Ws (sIf (tE (eOp dGe (eCall m_law_take (aCons (eVar 0) (aCons (eC (.int 8)) (aNil)))) (eVar 2))) (sAsg (eCall m_law_take (aCons (eVar 0) (aCons (eVar i) (aNil)))) (gName3 j)) (sNext)) l S
      fun f l1 S1 => f = .nx ∧ (l1 = l ∨ ∃ d, l1 = l.set j (some (.int d)) ∧ 0 ≤ d ∧ d < m) ∧ Pn ns rest (k + 2) S1 := by
  simp only [wo_run, ws_seq, ws_if, wt_e, we_op, we_un, we_var, we_c, ws_asg, ws_ret, ws_drop, ws_next, ws_break, ws_cont, wg_name, wg_sub, wg_tup, wg_nil, wg_cons, we_call, we_methL, wa_cons, wa_nil, wt_and, wt_or, wt_not, we_and, we_or, we_not, we_if, wo_I0, wo_I, wo_plus, wo_ixT, wo_ixL, wo_lenT, wo_lenL, wo_abs, wo_intB, wo_tup, wo_lst, wo_tupleL, wo_eqI, wo_eqB, wo_neS, wo_is, wo_isnot, List.map_cons, List.map_nil, List.length_cons, List.length_nil, Nat.reduceAdd, Nat.reduceSub, List.replicate, List.cons_append, List.nil_append, List.getElem?_cons_zero, List.getElem?_cons_succ, List.set_cons_zero, List.set_cons_succ, ex_some, ex_some1, ex_bl, ex_int, st_0, st_1, st_w1, st_w2, at3_0, at3_1, at3_2, at2_0, at2_1, st_push, st_len, st_2, lstOf_last, h0, h2, hi]
  refine (take_pn ns rest S k 8 h (by omega) (by decide) (by decide)).mono ?_
  rintro v S' ⟨⟨d, rfl, q1, q2⟩, p⟩
  simp only [wo_run, ws_seq, ws_if, wt_e, we_op, we_un, we_var, we_c, ws_asg, ws_ret, ws_drop, ws_next, ws_break, ws_cont, wg_name, wg_sub, wg_tup, wg_nil, wg_cons, we_call, we_methL, wa_cons, wa_nil, wt_and, wt_or, wt_not, we_and, we_or, we_not, we_if, wo_I0, wo_I, wo_plus, wo_ixT, wo_ixL, wo_lenT, wo_lenL, wo_abs, wo_intB, wo_tup, wo_lst, wo_tupleL, wo_eqI, wo_eqB, wo_neS, wo_is, wo_isnot, List.map_cons, List.map_nil, List.length_cons, List.length_nil, Nat.reduceAdd, Nat.reduceSub, List.replicate, List.cons_append, List.nil_append, List.getElem?_cons_zero, List.getElem?_cons_succ, List.set_cons_zero, List.set_cons_succ, ex_some, ex_some1, ex_bl, ex_int, st_0, st_1, st_w1, st_w2, at3_0, at3_1, at3_2, at2_0, at2_1, st_push, st_len, st_2, lstOf_last, h0, h2, hi]
  split
  · refine (take_pn ns rest S' (k + 1) m p (by omega) hm hm2).mono ?_
    rintro v S2 ⟨⟨e, rfl, q3, q4⟩, p2⟩
    exact ⟨by first | rfl | trivial, .inr ⟨e, rfl, q3, q4⟩, p2.mono (by omega)⟩
  · exact ⟨by first | rfl | trivial, by first | exact .inl rfl | exact .inl trivial | trivial, p.mono (by omega)⟩
theorem cell_ok (ns : List Int) (rest : Sto) (S : Sto) (k many share kinds : Int) (h : Pn ns rest k S) (hk : k < 800000000) (hm : 0 < many) (hm2 : many < 1073741824) (hn : 0 < kinds) (hn2 : kinds < 1073741824) :
    Wo (m_law_cell [.ref 1, .int many, .int share, .int kinds] S) fun v S' => IsCell many kinds v ∧ Pn ns rest (k + 4) S' := by
  unfold m_law_cell b_law_cell
  simp only [wo_run, List.map_cons, List.map_nil, List.length_cons, List.length_nil, Nat.reduceAdd, Nat.reduceSub, List.replicate, List.cons_append, List.nil_append]
  refine ws_cut (fun l S1 => l = [some (.ref 1), some (.int many), some (.int share), some (.int kinds), some .non, none] ∧ S1 = S) (by simp only [wo_run, ws_seq, ws_if, wt_e, we_op, we_un, we_var, we_c, ws_asg, ws_ret, ws_drop, ws_next, ws_break, ws_cont, wg_name, wg_sub, wg_tup, wg_nil, wg_cons, we_call, we_methL, wa_cons, wa_nil, wt_and, wt_or, wt_not, we_and, we_or, we_not, we_if, wo_I0, wo_I, wo_plus, wo_ixT, wo_ixL, wo_lenT, wo_lenL, wo_abs, wo_intB, wo_tup, wo_lst, wo_tupleL, wo_eqI, wo_eqB, wo_neS, wo_is, wo_isnot, List.map_cons, List.map_nil, List.length_cons, List.length_nil, Nat.reduceAdd, Nat.reduceSub, List.replicate, List.cons_append, List.nil_append, List.getElem?_cons_zero, List.getElem?_cons_succ, List.set_cons_zero, List.set_cons_succ, ex_some, ex_some1, ex_bl, ex_int, st_0, st_1, st_w1, st_w2, at3_0, at3_1, at3_2, at2_0, at2_1, st_push, st_len, st_2, lstOf_last, and_self]) ?_
  rintro l S1 ⟨rfl, rfl⟩
  refine ws_cut (fun l S1 => ∃ g, l = [some (.ref 1), some (.int many), some (.int share), some (.int kinds), some g, none] ∧ Or0 many g ∧ Pn ns rest (k + 2) S1) ((maybe ns rest S1 k many share _ 1 4 rfl rfl rfl h (by omega) hm hm2).mono ?_) ?_
  · rintro f l1 S2 ⟨rfl, hl, p⟩
    rcases hl with rfl | ⟨d, rfl, q1, q2⟩
    · exact ⟨rfl, _, rfl, .inl rfl, p⟩
    · exact ⟨rfl, _, rfl, .inr ⟨d, rfl, q1, q2⟩, p⟩
  rintro l S2 ⟨g, rfl, hg, p⟩
  refine ws_cut (fun l S1 => l = [some (.ref 1), some (.int many), some (.int share), some (.int kinds), some g, some .non] ∧ S1 = S2) (by simp only [wo_run, ws_seq, ws_if, wt_e, we_op, we_un, we_var, we_c, ws_asg, ws_ret, ws_drop, ws_next, ws_break, ws_cont, wg_name, wg_sub, wg_tup, wg_nil, wg_cons, we_call, we_methL, wa_cons, wa_nil, wt_and, wt_or, wt_not, we_and, we_or, we_not, we_if, wo_I0, wo_I, wo_plus, wo_ixT, wo_ixL, wo_lenT, wo_lenL, wo_abs, wo_intB, wo_tup, wo_lst, wo_tupleL, wo_eqI, wo_eqB, wo_neS, wo_is, wo_isnot, List.map_cons, List.map_nil, List.length_cons, List.length_nil, Nat.reduceAdd, Nat.reduceSub, List.replicate, List.cons_append, List.nil_append, List.getElem?_cons_zero, List.getElem?_cons_succ, List.set_cons_zero, List.set_cons_succ, ex_some, ex_some1, ex_bl, ex_int, st_0, st_1, st_w1, st_w2, at3_0, at3_1, at3_2, at2_0, at2_1, st_push, st_len, st_2, lstOf_last, and_self]) ?_
  rintro l S3 ⟨rfl, rfl⟩
  refine ws_cut (fun l S1 => ∃ s, l = [some (.ref 1), some (.int many), some (.int share), some (.int kinds), some g, some s] ∧ Or0 kinds s ∧ Pn ns rest (k + 4) S1) ((maybe ns rest S3 (k + 2) kinds share _ 3 5 rfl rfl rfl p (by omega) hn hn2).mono ?_) ?_
  · rintro f l1 S2 ⟨rfl, hl, p⟩
    rcases hl with rfl | ⟨d, rfl, q1, q2⟩
    · exact ⟨rfl, _, rfl, .inl rfl, p.mono (by omega)⟩
    · exact ⟨rfl, _, rfl, .inr ⟨d, rfl, q1, q2⟩, p.mono (by omega)⟩
  rintro l S4 ⟨s, rfl, hs, p⟩
  simp only [wo_run, ws_seq, ws_if, wt_e, we_op, we_un, we_var, we_c, ws_asg, ws_ret, ws_drop, ws_next, ws_break, ws_cont, wg_name, wg_sub, wg_tup, wg_nil, wg_cons, we_call, we_methL, wa_cons, wa_nil, wt_and, wt_or, wt_not, we_and, we_or, we_not, we_if, wo_I0, wo_I, wo_plus, wo_ixT, wo_ixL, wo_lenT, wo_lenL, wo_abs, wo_intB, wo_tup, wo_lst, wo_tupleL, wo_eqI, wo_eqB, wo_neS, wo_is, wo_isnot, List.map_cons, List.map_nil, List.length_cons, List.length_nil, Nat.reduceAdd, Nat.reduceSub, List.replicate, List.cons_append, List.nil_append, List.getElem?_cons_zero, List.getElem?_cons_succ, List.set_cons_zero, List.set_cons_succ, ex_some, ex_some1, ex_bl, ex_int, st_0, st_1, st_w1, st_w2, at3_0, at3_1, at3_2, at2_0, at2_1, st_push, st_len, st_2, lstOf_last]
  exact ⟨by decide, ⟨g, s, rfl, hg, hs⟩, p⟩
def IsRoom (asks : Nat) (many kinds : Int) (v : D) : Prop := ∃ cs, v = .tup cs ∧ cs.length = asks ∧ ∀ c ∈ cs, IsCell many kinds c
end M
set_option Elab.async false
set_option maxHeartbeats 4000000
set_option maxRecDepth 100000
namespace M
open PySem L3 G
theorem pn_get {ns : List Int} {pre : Sto} {o : Ob} {k : Int} {S : Sto} (h : Pn ns (pre ++ [o]) k S) : S[pre.length + 2]? = some o := by
  obtain ⟨a, r, ex, rfl, _⟩ := h
  rw [st_get, List.append_assoc, List.getElem?_append_right (Nat.le_refl _)]
  simp
theorem pn_lst {ns : List Int} {pre : Sto} {xs : List D} {k : Int} {S : Sto} (h : Pn ns (pre ++ [.lst xs]) k S) : lstOf S (pre.length + 2) = some xs := by
  unfold lstOf; rw [pn_get h]
theorem pn_set {ns : List Int} {pre : Sto} {o o' : Ob} {k : Int} {S : Sto} (h : Pn ns (pre ++ [o]) k S) : Pn ns (pre ++ [o']) k (S.set (pre.length + 2) o') := by
  obtain ⟨a, r, ex, rfl, h1, h2, h3⟩ := h
  refine ⟨a, r, ex, ?_, h1, h2, h3⟩
  rw [st_set]
  congr 1
  rw [List.append_assoc, List.append_assoc]
  rw [List.set_append_right _ _ (Nat.le_refl _)]
  simp
theorem pn_push {ns : List Int} {rest : Sto} {o : Ob} {k : Int} {S : Sto} (h : Pn ns rest k S) : ∃ pre ex, S.length = pre.length + 2 ∧ pre = rest ++ ex ∧ Pn ns (pre ++ [o]) k (S ++ [o]) := by
  obtain ⟨a, r, ex, rfl, h1, h2, h3⟩ := h
  exact ⟨rest ++ ex, ex, st_len, rfl, a, r, [], by rw [st_push, List.append_nil], h1, h2, h3⟩
theorem comp_inv {g : GM} {e : EM} (P : Nat → List D → Lo → Sto → Prop) (xs : List D) (step : ∀ (i : Nat) x l S acc, xs[i]? = some x → P i acc l S → Wg (g x l S) fun l1 S1 => We e l1 S1 fun y S2 => P (i + 1) (acc ++ [y]) l1 S2) :
    ∀ (m i : Nat) (l : Lo) (S : Sto) (acc : List D), i + m = xs.length → P i acc l S → ∃ ys S' l', compG (itX xs) g tTrue e (m + 1) i l S = some (ys, S') ∧ P xs.length (acc ++ ys) l' S'
  | 0, i, l, S, acc, hi, h => by
    have e0 : xs[i]? = none := List.getElem?_eq_none_iff.mpr (by omega)
    refine ⟨[], S, l, ?_, ?_⟩
    · unfold compG itX; rw [e0]; rfl
    · rw [List.append_nil, show xs.length = i by omega]; exact h
  | m + 1, i, l, S, acc, hi, h => by
    have hl : i < xs.length := by omega
    have e0 : xs[i]? = some xs[i] := List.getElem?_eq_getElem hl
    obtain ⟨l1, S1, e1, y, S2, e2, h2⟩ := step i _ l S acc e0 h
    obtain ⟨ys, S', l', e3, h3⟩ := comp_inv P xs step m (i + 1) l1 S2 (acc ++ [y]) (by omega) h2
    refine ⟨y :: ys, S', l', ?_, by rw [List.append_assoc] at h3; exact h3⟩
    have : compG (itX xs) g tTrue e (m + 1 + 1) i l S = ((itX xs i S).bind fun o => match o with
      | none => some ([], S)
      | some x => (g x l S).bind fun p => (tTrue p.1 p.2).bind fun q => if q.1 = true then (e p.1 q.2).bind fun r => (compG (itX xs) g tTrue e (m + 1) (i + 1) p.1 r.2).bind fun z => some (r.1 :: z.1, z.2) else compG (itX xs) g tTrue e (m + 1) (i + 1) p.1 q.2) := rfl
    rw [this]
    unfold itX; rw [e0]
    show (g xs[i] l S).bind _ = _
    rw [e1]
    show (e l1 S1).bind _ = _
    rw [e2]
    show (compG (itX xs) g tTrue e (m + 1) (i + 1) l1 S2).bind _ = _
    rw [e3]; rfl
theorem near_ok (ns : List Int) (rest : Sto) (S : Sto) (k many kinds : Int) (asks : Nat) (room : D) (hroom : IsRoom asks many kinds room) (hasks : asks ≤ 100) (h : Pn ns rest k S) (hk : 0 ≤ k) (hk2 : k < 800000000) (hm : 0 < many) (hm2 : many < 1073741824) (hn : 0 < kinds) (hn2 : kinds < 1073741824) :
    Wo (m_law_near [.ref 1, room, .int many, .int kinds] S) fun v S' => IsRoom asks many kinds v ∧ Pn ns rest (k + 3 * asks) S' := by
  obtain ⟨cs, rfl, hcs, hall⟩ := hroom
  unfold m_law_near b_law_near
  simp only [wo_run, List.map_cons, List.map_nil, List.length_cons, List.length_nil, Nat.reduceAdd, Nat.reduceSub, List.replicate, List.cons_append, List.nil_append]
  obtain ⟨pre, ex, hlen, hpre, hp⟩ := pn_push (o := .lst []) h
  refine ws_cut (fun l S1 => l = [some (.ref 1), some (.tup cs), some (.int many), some (.int kinds), some (.ref (pre.length + 2)), none, none, none, none] ∧ S1 = S ++ [.lst []]) (by simp only [wo_run, ws_seq, ws_if, wt_e, we_op, we_un, we_var, we_c, ws_asg, ws_ret, ws_drop, ws_next, ws_break, ws_cont, wg_name, wg_sub, wg_tup, wg_nil, wg_cons, we_call, we_methL, wa_cons, wa_nil, wt_and, wt_or, wt_not, we_and, we_or, we_not, we_if, wo_I0, wo_I, wo_plus, wo_ixT, wo_ixL, wo_lenT, wo_lenL, wo_abs, wo_intB, wo_tup, wo_lst, wo_tupleL, wo_eqI, wo_eqB, wo_neS, wo_is, wo_isnot, List.map_cons, List.map_nil, List.length_cons, List.length_nil, Nat.reduceAdd, Nat.reduceSub, List.replicate, List.cons_append, List.nil_append, List.getElem?_cons_zero, List.getElem?_cons_succ, List.set_cons_zero, List.set_cons_succ, ex_some, ex_some1, ex_bl, ex_int, st_0, st_1, st_w1, st_w2, at3_0, at3_1, at3_2, at2_0, at2_1, st_push, st_len, st_2, lstOf_last, hlen]; exact ⟨by decide, by first | rfl | trivial, by first | rfl | trivial⟩) ?_
  rintro l S1 ⟨rfl, rfl⟩
  refine ws_cut (fun l S1 => ∃ acc x5 x6 x7 x8, l = [some (.ref 1), some (.tup cs), some (.int many), some (.int kinds), some (.ref (pre.length + 2)), x5, x6, x7, x8] ∧ acc.length = asks ∧ (∀ c ∈ acc, IsCell many kinds c) ∧ Pn ns (pre ++ [.lst acc]) (k + 3 * asks) S1) ?_ ?_
  · rw [ws_forT]
    simp only [we_var, List.getElem?_cons_zero, List.getElem?_cons_succ, ex_some]
    refine (forX_inv (fun i l S1 => ∃ acc x5 x6 x7 x8, l = [some (.ref 1), some (.tup cs), some (.int many), some (.int kinds), some (.ref (pre.length + 2)), x5, x6, x7, x8] ∧ acc.length = i ∧ (∀ c ∈ acc, IsCell many kinds c) ∧ Pn ns (pre ++ [.lst acc]) (k + 3 * i) S1) cs 0 _ _ ⟨[], none, none, none, none, rfl, rfl, (by intro c hc; cases hc), by simpa using hp⟩ ?_).mono ?_
    · rintro i x l S2 hx ⟨acc, x5, x6, x7, x8, rfl, hacc, hcell, p⟩
      rw [Nat.zero_add] at hacc p
      have hi : i < cs.length := (List.getElem?_eq_some_iff.mp hx).1
      obtain ⟨g, s, rfl, hg, hs⟩ := hall x (List.mem_of_getElem? hx)
      simp only [wg_name, List.set_cons_zero, List.set_cons_succ]
      refine ws_cut (fun l S1 => ∃ d, l = [some (.ref 1), some (.tup cs), some (.int many), some (.int kinds), some (.ref (pre.length + 2)), some (.tup [g, s]), some (.int d), x7, x8] ∧ Pn ns (pre ++ [.lst acc]) (k + 3 * i + 1) S1) ?_ ?_
      · simp only [wo_run, ws_seq, ws_if, wt_e, we_op, we_un, we_var, we_c, ws_asg, ws_ret, ws_drop, ws_next, ws_break, ws_cont, wg_name, wg_sub, wg_tup, wg_nil, wg_cons, we_call, we_methL, wa_cons, wa_nil, wt_and, wt_or, wt_not, we_and, we_or, we_not, we_if, wo_I0, wo_I, wo_plus, wo_ixT, wo_ixL, wo_lenT, wo_lenL, wo_abs, wo_intB, wo_tup, wo_lst, wo_tupleL, wo_eqI, wo_eqB, wo_neS, wo_is, wo_isnot, List.map_cons, List.map_nil, List.length_cons, List.length_nil, Nat.reduceAdd, Nat.reduceSub, List.replicate, List.cons_append, List.nil_append, List.getElem?_cons_zero, List.getElem?_cons_succ, List.set_cons_zero, List.set_cons_succ, ex_some, ex_some1, ex_bl, ex_int, st_0, st_1, st_w1, st_w2, at3_0, at3_1, at3_2, at2_0, at2_1, st_push, st_len, st_2, lstOf_last]
        refine (take_pn ns _ S2 (k + 3 * i) 8 p (by omega) (by decide) (by decide)).mono ?_
        rintro v S' ⟨⟨d, rfl, _, _⟩, p2⟩
        exact ⟨by first | rfl | trivial, d, rfl, p2⟩
      rintro l S3 ⟨d, rfl, p3⟩
      refine ws_cut (fun l S1 => l = [some (.ref 1), some (.tup cs), some (.int many), some (.int kinds), some (.ref (pre.length + 2)), some (.tup [g, s]), some (.int d), some g, some s] ∧ S1 = S3) (by simp only [wo_run, ws_seq, ws_if, wt_e, we_op, we_un, we_var, we_c, ws_asg, ws_ret, ws_drop, ws_next, ws_break, ws_cont, wg_name, wg_sub, wg_tup, wg_nil, wg_cons, we_call, we_methL, wa_cons, wa_nil, wt_and, wt_or, wt_not, we_and, we_or, we_not, we_if, wo_I0, wo_I, wo_plus, wo_ixT, wo_ixL, wo_lenT, wo_lenL, wo_abs, wo_intB, wo_tup, wo_lst, wo_tupleL, wo_eqI, wo_eqB, wo_neS, wo_is, wo_isnot, List.map_cons, List.map_nil, List.length_cons, List.length_nil, Nat.reduceAdd, Nat.reduceSub, List.replicate, List.cons_append, List.nil_append, List.getElem?_cons_zero, List.getElem?_cons_succ, List.set_cons_zero, List.set_cons_succ, ex_some, ex_some1, ex_bl, ex_int, st_0, st_1, st_w1, st_w2, at3_0, at3_1, at3_2, at2_0, at2_1, st_push, st_len, st_2, lstOf_last, and_self]) ?_
      rintro l S4 ⟨rfl, rfl⟩
      have base : ∀ (g1 s1 : D), ([some (.ref 1), some (.tup cs), some (.int many), some (.int kinds), some (.ref (pre.length + 2)), some (.tup [g, s]), some (.int d), some g1, some s1] : Lo) = [some (.ref 1), some (.tup cs), some (.int many), some (.int kinds), some (.ref (pre.length + 2)), some (.tup [g, s]), some (.int d), some g1, some s1] := fun _ _ => rfl
      refine ws_cut (fun l S1 => ∃ g1, l = [some (.ref 1), some (.tup cs), some (.int many), some (.int kinds), some (.ref (pre.length + 2)), some (.tup [g, s]), some (.int d), some g1, some s] ∧ Or0 many g1 ∧ S1 = S4) ?_ ?_
      · simp only [wo_run, ws_seq, ws_if, wt_e, we_op, we_un, we_var, we_c, ws_asg, ws_ret, ws_drop, ws_next, ws_break, ws_cont, wg_name, wg_sub, wg_tup, wg_nil, wg_cons, we_call, we_methL, wa_cons, wa_nil, wt_and, wt_or, wt_not, we_and, we_or, we_not, we_if, wo_I0, wo_I, wo_plus, wo_ixT, wo_ixL, wo_lenT, wo_lenL, wo_abs, wo_intB, wo_tup, wo_lst, wo_tupleL, wo_eqI, wo_eqB, wo_neS, wo_is, wo_isnot, List.map_cons, List.map_nil, List.length_cons, List.length_nil, Nat.reduceAdd, Nat.reduceSub, List.replicate, List.cons_append, List.nil_append, List.getElem?_cons_zero, List.getElem?_cons_succ, List.set_cons_zero, List.set_cons_succ, ex_some, ex_some1, ex_bl, ex_int, st_0, st_1, st_w1, st_w2, at3_0, at3_1, at3_2, at2_0, at2_1, st_push, st_len, st_2, lstOf_last]
        split
        · exact ⟨by first | rfl | trivial, .non, rfl, .inl rfl, by first | rfl | trivial⟩
        · exact ⟨by first | rfl | trivial, g, rfl, hg, by first | rfl | trivial⟩
      rintro l S5 ⟨g1, rfl, hg1, rfl⟩
      refine ws_cut (fun l S1 => ∃ s1, l = [some (.ref 1), some (.tup cs), some (.int many), some (.int kinds), some (.ref (pre.length + 2)), some (.tup [g, s]), some (.int d), some g1, some s1] ∧ Or0 kinds s1 ∧ S1 = S5) ?_ ?_
      · simp only [wo_run, ws_seq, ws_if, wt_e, we_op, we_un, we_var, we_c, ws_asg, ws_ret, ws_drop, ws_next, ws_break, ws_cont, wg_name, wg_sub, wg_tup, wg_nil, wg_cons, we_call, we_methL, wa_cons, wa_nil, wt_and, wt_or, wt_not, we_and, we_or, we_not, we_if, wo_I0, wo_I, wo_plus, wo_ixT, wo_ixL, wo_lenT, wo_lenL, wo_abs, wo_intB, wo_tup, wo_lst, wo_tupleL, wo_eqI, wo_eqB, wo_neS, wo_is, wo_isnot, List.map_cons, List.map_nil, List.length_cons, List.length_nil, Nat.reduceAdd, Nat.reduceSub, List.replicate, List.cons_append, List.nil_append, List.getElem?_cons_zero, List.getElem?_cons_succ, List.set_cons_zero, List.set_cons_succ, ex_some, ex_some1, ex_bl, ex_int, st_0, st_1, st_w1, st_w2, at3_0, at3_1, at3_2, at2_0, at2_1, st_push, st_len, st_2, lstOf_last]
        split
        · exact ⟨by first | rfl | trivial, .non, rfl, .inl rfl, by first | rfl | trivial⟩
        · exact ⟨by first | rfl | trivial, s, rfl, hs, by first | rfl | trivial⟩
      rintro l S6 ⟨s1, rfl, hs1, rfl⟩
      refine ws_cut (fun l S1 => ∃ g2, l = [some (.ref 1), some (.tup cs), some (.int many), some (.int kinds), some (.ref (pre.length + 2)), some (.tup [g, s]), some (.int d), some g2, some s1] ∧ Or0 many g2 ∧ Pn ns (pre ++ [.lst acc]) (k + 3 * i + 2) S1) ?_ ?_
      · simp only [wo_run, ws_seq, ws_if, wt_e, we_op, we_un, we_var, we_c, ws_asg, ws_ret, ws_drop, ws_next, ws_break, ws_cont, wg_name, wg_sub, wg_tup, wg_nil, wg_cons, we_call, we_methL, wa_cons, wa_nil, wt_and, wt_or, wt_not, we_and, we_or, we_not, we_if, wo_I0, wo_I, wo_plus, wo_ixT, wo_ixL, wo_lenT, wo_lenL, wo_abs, wo_intB, wo_tup, wo_lst, wo_tupleL, wo_eqI, wo_eqB, wo_neS, wo_is, wo_isnot, List.map_cons, List.map_nil, List.length_cons, List.length_nil, Nat.reduceAdd, Nat.reduceSub, List.replicate, List.cons_append, List.nil_append, List.getElem?_cons_zero, List.getElem?_cons_succ, List.set_cons_zero, List.set_cons_succ, ex_some, ex_some1, ex_bl, ex_int, st_0, st_1, st_w1, st_w2, at3_0, at3_1, at3_2, at2_0, at2_1, st_push, st_len, st_2, lstOf_last]
        split
        · refine (take_pn ns _ S6 (k + 3 * i + 1) many p3 (by omega) hm hm2).mono ?_
          rintro v S' ⟨⟨e, rfl, q1, q2⟩, p4⟩
          exact ⟨by first | rfl | trivial, _, rfl, .inr ⟨e, rfl, q1, q2⟩, p4.mono (by omega)⟩
        · exact ⟨by first | rfl | trivial, g1, rfl, hg1, p3.mono (by omega)⟩
      rintro l S7 ⟨g2, rfl, hg2, p7⟩
      refine ws_cut (fun l S1 => ∃ s2, l = [some (.ref 1), some (.tup cs), some (.int many), some (.int kinds), some (.ref (pre.length + 2)), some (.tup [g, s]), some (.int d), some g2, some s2] ∧ Or0 kinds s2 ∧ Pn ns (pre ++ [.lst acc]) (k + 3 * i + 3) S1) ?_ ?_
      · simp only [wo_run, ws_seq, ws_if, wt_e, we_op, we_un, we_var, we_c, ws_asg, ws_ret, ws_drop, ws_next, ws_break, ws_cont, wg_name, wg_sub, wg_tup, wg_nil, wg_cons, we_call, we_methL, wa_cons, wa_nil, wt_and, wt_or, wt_not, we_and, we_or, we_not, we_if, wo_I0, wo_I, wo_plus, wo_ixT, wo_ixL, wo_lenT, wo_lenL, wo_abs, wo_intB, wo_tup, wo_lst, wo_tupleL, wo_eqI, wo_eqB, wo_neS, wo_is, wo_isnot, List.map_cons, List.map_nil, List.length_cons, List.length_nil, Nat.reduceAdd, Nat.reduceSub, List.replicate, List.cons_append, List.nil_append, List.getElem?_cons_zero, List.getElem?_cons_succ, List.set_cons_zero, List.set_cons_succ, ex_some, ex_some1, ex_bl, ex_int, st_0, st_1, st_w1, st_w2, at3_0, at3_1, at3_2, at2_0, at2_1, st_push, st_len, st_2, lstOf_last]
        split
        · refine (take_pn ns _ S7 (k + 3 * i + 2) kinds p7 (by omega) hn hn2).mono ?_
          rintro v S' ⟨⟨e, rfl, q1, q2⟩, p4⟩
          exact ⟨by first | rfl | trivial, _, rfl, .inr ⟨e, rfl, q1, q2⟩, p4.mono (by omega)⟩
        · exact ⟨by first | rfl | trivial, s1, rfl, hs1, p7.mono (by omega)⟩
      rintro l S8 ⟨s2, rfl, hs2, p8⟩
      simp only [wo_run, ws_seq, ws_if, wt_e, we_op, we_un, we_var, we_c, ws_asg, ws_ret, ws_drop, ws_next, ws_break, ws_cont, wg_name, wg_sub, wg_tup, wg_nil, wg_cons, we_call, we_methL, wa_cons, wa_nil, wt_and, wt_or, wt_not, we_and, we_or, we_not, we_if, wo_I0, wo_I, wo_plus, wo_ixT, wo_ixL, wo_lenT, wo_lenL, wo_abs, wo_intB, wo_tup, wo_lst, wo_tupleL, wo_eqI, wo_eqB, wo_neS, wo_is, wo_isnot, List.map_cons, List.map_nil, List.length_cons, List.length_nil, Nat.reduceAdd, Nat.reduceSub, List.replicate, List.cons_append, List.nil_append, List.getElem?_cons_zero, List.getElem?_cons_succ, List.set_cons_zero, List.set_cons_succ, ex_some, ex_some1, ex_bl, ex_int, st_0, st_1, st_w1, st_w2, at3_0, at3_1, at3_2, at2_0, at2_1, st_push, st_len, st_2, lstOf_last, wo_append, recvL, pn_lst p8, pn_get p8, Option.some.injEq, exists_eq', true_and, Ob.lst.injEq, exists_eq_left']
      refine ⟨by decide, ?_, by first | exact .inl rfl | exact .inl trivial | trivial, acc ++ [.tup [g2, s2]], _, _, _, _, rfl, by simp [hacc], ?_, ?_⟩
      · have : (100 : Nat) < sizeLine := by decide
        omega
      · intro c hc
        rcases List.mem_append.mp hc with hc | hc
        · exact hcell c hc
        · have : c = .tup [g2, s2] := by simpa using hc
          exact ⟨g2, s2, this, hg2, hs2⟩
      · exact (pn_set p8).mono (by omega)
    · rintro f l' S' ⟨rfl, acc, x5, x6, x7, x8, rfl, hacc, hcell, p⟩
      exact ⟨rfl, acc, x5, x6, x7, x8, rfl, by omega, hcell, p.mono (by omega)⟩
  · rintro l S2 ⟨acc, x5, x6, x7, x8, rfl, hacc, hcell, p⟩
    simp only [wo_run, ws_seq, ws_if, wt_e, we_op, we_un, we_var, we_c, ws_asg, ws_ret, ws_drop, ws_next, ws_break, ws_cont, wg_name, wg_sub, wg_tup, wg_nil, wg_cons, we_call, we_methL, wa_cons, wa_nil, wt_and, wt_or, wt_not, we_and, we_or, we_not, we_if, wo_I0, wo_I, wo_plus, wo_ixT, wo_ixL, wo_lenT, wo_lenL, wo_abs, wo_intB, wo_tup, wo_lst, wo_tupleL, wo_eqI, wo_eqB, wo_neS, wo_is, wo_isnot, List.map_cons, List.map_nil, List.length_cons, List.length_nil, Nat.reduceAdd, Nat.reduceSub, List.replicate, List.cons_append, List.nil_append, List.getElem?_cons_zero, List.getElem?_cons_succ, List.set_cons_zero, List.set_cons_succ, ex_some, ex_some1, ex_bl, ex_int, st_0, st_1, st_w1, st_w2, at3_0, at3_1, at3_2, at2_0, at2_1, st_push, st_len, st_2, lstOf_last, pn_lst p]
    refine ⟨⟨acc, rfl, hacc, hcell⟩, ?_⟩
    rw [hpre, List.append_assoc] at p
    exact p.start
end M
set_option Elab.async false
set_option maxHeartbeats 4000000
set_option maxRecDepth 100000
namespace M
open PySem L3 G
def IsMach (many : Int) (asks : Nat) (v : D) : Prop := ∃ rooms, v = .tup [.int asks, .tup rooms] ∧ 1 ≤ asks ∧ asks ≤ 4 ∧ (rooms.length : Int) = many ∧ 1 ≤ many ∧ ∀ r ∈ rooms, IsRoom asks many 8 r
theorem Or0.mono {a b : Int} {g : D} (h : Or0 a g) (hab : a ≤ b) : Or0 b g := by
  rcases h with h | ⟨i, h1, h2, h3⟩
  · exact .inl h
  · exact .inr ⟨i, h1, h2, by omega⟩
theorem IsRoom.mono {asks : Nat} {many a b : Int} {v : D} (h : IsRoom asks many a v) (hab : a ≤ b) : IsRoom asks many b v := by
  obtain ⟨cs, h1, h2, h3⟩ := h
  refine ⟨cs, h1, h2, fun c hc => ?_⟩
  obtain ⟨g, s, q1, q2, q3⟩ := h3 c hc
  exact ⟨g, s, q1, q2, q3.mono hab⟩
theorem pick4 {a b c d : Int} (i : Int) (h0 : 0 ≤ i) (h1 : i < 4) : ∃ x, L2.atI [D.int a, D.int b, D.int c, D.int d] i = some (.int x) ∧ (x = a ∨ x = b ∨ x = c ∨ x = d) := by
  have : i = 0 ∨ i = 1 ∨ i = 2 ∨ i = 3 := by omega
  rcases this with rfl | rfl | rfl | rfl
  · exact ⟨a, rfl, by simp⟩
  · exact ⟨b, rfl, by simp⟩
  · exact ⟨c, rfl, by simp⟩
  · exact ⟨d, rfl, by simp⟩
theorem pn_app {ns : List Int} {rest : Sto} {o : Ob} {k : Int} {S : Sto} (h : Pn ns rest k S) : Pn ns rest k (S ++ [o]) := by
  obtain ⟨a, r, ex, rfl, h1, h2, h3⟩ := h
  exact ⟨a, r, ex ++ [o], by rw [st_push, List.append_assoc], h1, h2, h3⟩
theorem recv_ref {n : Nat} {S : Sto} : recvL (.ref n) S = lstOf S n := rfl
theorem ex_ok {α : Type} {x : α} : (∃ y, some x = some y) = True := by simp
theorem ws_if' {t : TM} {m n : SM} {l : Lo} {S : Sto} {Q : Fl → Lo → Sto → Prop} (R : Bool → Sto → Prop) (h : Wt t l S R) (h1 : ∀ S1, R true S1 → Ws m l S1 Q) (h2 : ∀ S1, R false S1 → Ws n l S1 Q) : Ws (sIf t m n) l S Q := by
  rw [ws_if]
  obtain ⟨k, S1, e, r⟩ := h
  refine ⟨k, S1, e, ?_⟩
  cases k with
  | true => exact h1 S1 r
  | false => exact h2 S1 r
theorem we_compR {as : AM} {g : GM} {e : EM} {ixs : List (Option Nat)} {l : Lo} {S : Sto} {Q : D → Sto → Prop} (h : Wa as l S fun xs S1 => ∃ j, xs = [.int j] ∧ (-(2 ^ 62) ≤ j ∧ j < 2 ^ 62) ∧ ∃ ys S2, compG (itX (rngD 0 j.toNat)) g tTrue e (j.toNat + 1) 0 (srcL ixs l) S1 = some (ys, S2) ∧ ys.length ≤ sizeLine ∧ Q (.ref S2.length) (S2 ++ [.lst ys])) :
    We (eComp (iRng (rng1 as)) ixs g tTrue e) l S Q := by
  obtain ⟨xs, S1, h1, j, rfl, hz, ys, S2, h2, h3, q⟩ := h
  refine ⟨_, _, ?_, q⟩
  have : rng1 as l S = some ((0, j.toNat), S1) := by
    unfold rng1; rw [h1]; show (if _ then _ else _) = _; rw [if_pos hz]
  unfold eComp iRng
  show ((rng1 as l S).bind _).bind _ = _
  rw [this]
  show (compG (itX (rngD 0 j.toNat)) g tTrue e (j.toNat + 1) 0 (srcL ixs l) S1).bind _ = _
  rw [h2]
  show (if _ then _ else _) = _
  rw [if_pos h3]
theorem machine_ok (ns : List Int) (rest : Sto) (S : Sto) (k most : Int) (h : Pn ns rest k S) (hk : 0 ≤ k) (hk2 : k < 700000000) (hm : 0 < most) (hm2 : most ≤ 24) :
    Wo (m_law_machine [.ref 1, .int most] S) fun v S' => (∃ many asks, IsMach many asks v ∧ many ≤ most) ∧ Pn ns rest (k + 1000) S' := by
  unfold m_law_machine b_law_machine
  simp only [wo_run, List.map_cons, List.map_nil, List.length_cons, List.length_nil, Nat.reduceAdd, Nat.reduceSub, List.replicate, List.cons_append, List.nil_append]
  refine ws_cut (fun l S1 => ∃ co, l = [some (.ref 1), some (.int most), some (.int co), none, none, none, none, none, none] ∧ Pn ns rest (k + 1) S1) ?_ ?_
  · simp only [wo_run, ws_seq, ws_if, wt_e, we_op, we_un, we_var, we_c, ws_asg, ws_ret, ws_drop, ws_next, ws_break, ws_cont, wg_name, wg_sub, wg_tup, wg_nil, wg_cons, we_call, we_methL, wa_cons, wa_nil, wt_and, wt_or, wt_not, we_and, we_or, we_not, we_if, wo_I0, wo_I, wo_plus, wo_ixT, wo_ixL, wo_lenT, wo_lenL, wo_abs, wo_intB, wo_tup, wo_lst, wo_tupleL, wo_eqI, wo_eqB, wo_neS, wo_is, wo_isnot, List.map_cons, List.map_nil, List.length_cons, List.length_nil, Nat.reduceAdd, Nat.reduceSub, List.replicate, List.cons_append, List.nil_append, List.getElem?_cons_zero, List.getElem?_cons_succ, List.set_cons_zero, List.set_cons_succ, ex_some, ex_some1, ex_bl, ex_int, st_0, st_1, st_w1, st_w2, at3_0, at3_1, at3_2, at2_0, at2_1, st_push, st_len, st_2, lstOf_last]
    refine (take_pn ns rest S k 3 h (by omega) (by decide) (by decide)).mono ?_
    rintro v S' ⟨⟨d, rfl, q1, q2⟩, p⟩
    exact ⟨by first | rfl | trivial, d, rfl, p⟩
  rintro l S1 ⟨co, rfl, p1⟩
  refine ws_cut (fun l S1 => ∃ sh, l = [some (.ref 1), some (.int most), some (.int co), some (.int sh), none, none, none, none, none] ∧ Pn ns rest (k + 2) S1) ?_ ?_
  · simp only [wo_run, ws_seq, ws_if, wt_e, we_op, we_un, we_var, we_c, ws_asg, ws_ret, ws_drop, ws_next, ws_break, ws_cont, wg_name, wg_sub, wg_tup, wg_nil, wg_cons, we_call, we_methL, wa_cons, wa_nil, wt_and, wt_or, wt_not, we_and, we_or, we_not, we_if, wo_I0, wo_I, wo_plus, wo_ixT, wo_ixL, wo_lenT, wo_lenL, wo_abs, wo_intB, wo_tup, wo_lst, wo_tupleL, wo_eqI, wo_eqB, wo_neS, wo_is, wo_isnot, List.map_cons, List.map_nil, List.length_cons, List.length_nil, Nat.reduceAdd, Nat.reduceSub, List.replicate, List.cons_append, List.nil_append, List.getElem?_cons_zero, List.getElem?_cons_succ, List.set_cons_zero, List.set_cons_succ, ex_some, ex_some1, ex_bl, ex_int, st_0, st_1, st_w1, st_w2, at3_0, at3_1, at3_2, at2_0, at2_1, st_push, st_len, st_2, lstOf_last]
    refine ⟨by decide, ?_⟩
    obtain ⟨pre, ex, hlen, hpre, hp⟩ := pn_push (o := .lst [.int 0, .int 1, .int 2, .int 5]) p1
    refine (take_pn ns _ _ (k + 1) 4 hp (by omega) (by decide) (by decide)).mono ?_
    rintro v S' ⟨⟨d, rfl, q1, q2⟩, p⟩
    obtain ⟨x, hx, _⟩ := pick4 (a := 0) (b := 1) (c := 2) (d := 5) d q1 q2
    simp only [wo_run, ws_seq, ws_if, wt_e, we_op, we_un, we_var, we_c, ws_asg, ws_ret, ws_drop, ws_next, ws_break, ws_cont, wg_name, wg_sub, wg_tup, wg_nil, wg_cons, we_call, we_methL, wa_cons, wa_nil, wt_and, wt_or, wt_not, we_and, we_or, we_not, we_if, wo_I0, wo_I, wo_plus, wo_ixT, wo_ixL, wo_lenT, wo_lenL, wo_abs, wo_intB, wo_tup, wo_lst, wo_tupleL, wo_eqI, wo_eqB, wo_neS, wo_is, wo_isnot, List.map_cons, List.map_nil, List.length_cons, List.length_nil, Nat.reduceAdd, Nat.reduceSub, List.replicate, List.cons_append, List.nil_append, List.getElem?_cons_zero, List.getElem?_cons_succ, List.set_cons_zero, List.set_cons_succ, ex_some, ex_some1, ex_bl, ex_int, st_0, st_1, st_w1, st_w2, at3_0, at3_1, at3_2, at2_0, at2_1, st_push, st_len, st_2, lstOf_last, hlen, pn_lst p, hx]
    rw [hpre, List.append_assoc] at p
    exact ⟨by first | rfl | trivial, x, rfl, p.start.mono (by omega)⟩
  rintro l S2 ⟨sh, rfl, p2⟩
  refine ws_cut (fun l S1 => ∃ ki, l = [some (.ref 1), some (.int most), some (.int co), some (.int sh), some (.int ki), none, none, none, none] ∧ (1 ≤ ki ∧ ki ≤ 8) ∧ Pn ns rest (k + 3) S1) ?_ ?_
  · simp only [wo_run, ws_seq, ws_if, wt_e, we_op, we_un, we_var, we_c, ws_asg, ws_ret, ws_drop, ws_next, ws_break, ws_cont, wg_name, wg_sub, wg_tup, wg_nil, wg_cons, we_call, we_methL, wa_cons, wa_nil, wt_and, wt_or, wt_not, we_and, we_or, we_not, we_if, wo_I0, wo_I, wo_plus, wo_ixT, wo_ixL, wo_lenT, wo_lenL, wo_abs, wo_intB, wo_tup, wo_lst, wo_tupleL, wo_eqI, wo_eqB, wo_neS, wo_is, wo_isnot, List.map_cons, List.map_nil, List.length_cons, List.length_nil, Nat.reduceAdd, Nat.reduceSub, List.replicate, List.cons_append, List.nil_append, List.getElem?_cons_zero, List.getElem?_cons_succ, List.set_cons_zero, List.set_cons_succ, ex_some, ex_some1, ex_bl, ex_int, st_0, st_1, st_w1, st_w2, at3_0, at3_1, at3_2, at2_0, at2_1, st_push, st_len, st_2, lstOf_last]
    refine ⟨by decide, ?_⟩
    obtain ⟨pre, ex, hlen, hpre, hp⟩ := pn_push (o := .lst [.int 1, .int 2, .int 3, .int 8]) p2
    refine (take_pn ns _ _ (k + 2) 4 hp (by omega) (by decide) (by decide)).mono ?_
    rintro v S' ⟨⟨d, rfl, q1, q2⟩, p⟩
    obtain ⟨x, hx, hx2⟩ := pick4 (a := 1) (b := 2) (c := 3) (d := 8) d q1 q2
    simp only [wo_run, ws_seq, ws_if, wt_e, we_op, we_un, we_var, we_c, ws_asg, ws_ret, ws_drop, ws_next, ws_break, ws_cont, wg_name, wg_sub, wg_tup, wg_nil, wg_cons, we_call, we_methL, wa_cons, wa_nil, wt_and, wt_or, wt_not, we_and, we_or, we_not, we_if, wo_I0, wo_I, wo_plus, wo_ixT, wo_ixL, wo_lenT, wo_lenL, wo_abs, wo_intB, wo_tup, wo_lst, wo_tupleL, wo_eqI, wo_eqB, wo_neS, wo_is, wo_isnot, List.map_cons, List.map_nil, List.length_cons, List.length_nil, Nat.reduceAdd, Nat.reduceSub, List.replicate, List.cons_append, List.nil_append, List.getElem?_cons_zero, List.getElem?_cons_succ, List.set_cons_zero, List.set_cons_succ, ex_some, ex_some1, ex_bl, ex_int, st_0, st_1, st_w1, st_w2, at3_0, at3_1, at3_2, at2_0, at2_1, st_push, st_len, st_2, lstOf_last, hlen, pn_lst p, hx]
    rw [hpre, List.append_assoc] at p
    exact ⟨by first | rfl | trivial, x, rfl, by omega, p.start.mono (by omega)⟩
  rintro l S3 ⟨ki, rfl, ⟨ki1, ki2⟩, p3⟩
  refine ws_cut (fun l S1 => ∃ asks : Nat, l = [some (.ref 1), some (.int most), some (.int co), some (.int sh), some (.int ki), some (.int asks), none, none, none] ∧ (1 ≤ asks ∧ asks ≤ 4) ∧ Pn ns rest (k + 4) S1) ?_ ?_
  · simp only [wo_run, ws_seq, ws_if, wt_e, we_op, we_un, we_var, we_c, ws_asg, ws_ret, ws_drop, ws_next, ws_break, ws_cont, wg_name, wg_sub, wg_tup, wg_nil, wg_cons, we_call, we_methL, wa_cons, wa_nil, wt_and, wt_or, wt_not, we_and, we_or, we_not, we_if, wo_I0, wo_I, wo_plus, wo_ixT, wo_ixL, wo_lenT, wo_lenL, wo_abs, wo_intB, wo_tup, wo_lst, wo_tupleL, wo_eqI, wo_eqB, wo_neS, wo_is, wo_isnot, List.map_cons, List.map_nil, List.length_cons, List.length_nil, Nat.reduceAdd, Nat.reduceSub, List.replicate, List.cons_append, List.nil_append, List.getElem?_cons_zero, List.getElem?_cons_succ, List.set_cons_zero, List.set_cons_succ, ex_some, ex_some1, ex_bl, ex_int, st_0, st_1, st_w1, st_w2, at3_0, at3_1, at3_2, at2_0, at2_1, st_push, st_len, st_2, lstOf_last]
    refine (take_pn ns _ _ (k + 3) 4 p3 (by omega) (by decide) (by decide)).mono ?_
    rintro v S' ⟨⟨d, rfl, q1, q2⟩, p⟩
    simp only [wo_run, ws_seq, ws_if, wt_e, we_op, we_un, we_var, we_c, ws_asg, ws_ret, ws_drop, ws_next, ws_break, ws_cont, wg_name, wg_sub, wg_tup, wg_nil, wg_cons, we_call, we_methL, wa_cons, wa_nil, wt_and, wt_or, wt_not, we_and, we_or, we_not, we_if, wo_I0, wo_I, wo_plus, wo_ixT, wo_ixL, wo_lenT, wo_lenL, wo_abs, wo_intB, wo_tup, wo_lst, wo_tupleL, wo_eqI, wo_eqB, wo_neS, wo_is, wo_isnot, List.map_cons, List.map_nil, List.length_cons, List.length_nil, Nat.reduceAdd, Nat.reduceSub, List.replicate, List.cons_append, List.nil_append, List.getElem?_cons_zero, List.getElem?_cons_succ, List.set_cons_zero, List.set_cons_succ, ex_some, ex_some1, ex_bl, ex_int, st_0, st_1, st_w1, st_w2, at3_0, at3_1, at3_2, at2_0, at2_1, st_push, st_len, st_2, lstOf_last]
    refine ⟨by first | rfl | trivial, (1 + d).toNat, ?_, by omega, p.mono (by omega)⟩
    rw [show ((1 + d).toNat : Int) = 1 + d by omega]
  rintro l S4 ⟨asks, rfl, ⟨as1, as2⟩, p4⟩
  refine ws_cut (fun l S1 => ∃ many : Int, l = [some (.ref 1), some (.int most), some (.int co), some (.int sh), some (.int ki), some (.int asks), some (.int many), none, none] ∧ (1 ≤ many ∧ many ≤ most) ∧ Pn ns rest (k + 5) S1) ?_ ?_
  · simp only [wo_run, ws_seq, ws_if, wt_e, we_op, we_un, we_var, we_c, ws_asg, ws_ret, ws_drop, ws_next, ws_break, ws_cont, wg_name, wg_sub, wg_tup, wg_nil, wg_cons, we_call, we_methL, wa_cons, wa_nil, wt_and, wt_or, wt_not, we_and, we_or, we_not, we_if, wo_I0, wo_I, wo_plus, wo_ixT, wo_ixL, wo_lenT, wo_lenL, wo_abs, wo_intB, wo_tup, wo_lst, wo_tupleL, wo_eqI, wo_eqB, wo_neS, wo_is, wo_isnot, List.map_cons, List.map_nil, List.length_cons, List.length_nil, Nat.reduceAdd, Nat.reduceSub, List.replicate, List.cons_append, List.nil_append, List.getElem?_cons_zero, List.getElem?_cons_succ, List.set_cons_zero, List.set_cons_succ, ex_some, ex_some1, ex_bl, ex_int, st_0, st_1, st_w1, st_w2, at3_0, at3_1, at3_2, at2_0, at2_1, st_push, st_len, st_2, lstOf_last]
    refine (take_pn ns _ _ (k + 4) most p4 (by omega) hm (by omega)).mono ?_
    rintro v S' ⟨⟨d, rfl, q1, q2⟩, p⟩
    simp only [wo_run, ws_seq, ws_if, wt_e, we_op, we_un, we_var, we_c, ws_asg, ws_ret, ws_drop, ws_next, ws_break, ws_cont, wg_name, wg_sub, wg_tup, wg_nil, wg_cons, we_call, we_methL, wa_cons, wa_nil, wt_and, wt_or, wt_not, we_and, we_or, we_not, we_if, wo_I0, wo_I, wo_plus, wo_ixT, wo_ixL, wo_lenT, wo_lenL, wo_abs, wo_intB, wo_tup, wo_lst, wo_tupleL, wo_eqI, wo_eqB, wo_neS, wo_is, wo_isnot, List.map_cons, List.map_nil, List.length_cons, List.length_nil, Nat.reduceAdd, Nat.reduceSub, List.replicate, List.cons_append, List.nil_append, List.getElem?_cons_zero, List.getElem?_cons_succ, List.set_cons_zero, List.set_cons_succ, ex_some, ex_some1, ex_bl, ex_int, st_0, st_1, st_w1, st_w2, at3_0, at3_1, at3_2, at2_0, at2_1, st_push, st_len, st_2, lstOf_last]
    exact ⟨by first | rfl | trivial, 1 + d, rfl, by omega, p.mono (by omega)⟩
  rintro l S5 ⟨many, rfl, ⟨ma1, ma2⟩, p5⟩
  obtain ⟨pre, ex, hlen, hpre, hp⟩ := pn_push (o := .lst []) p5
  refine ws_cut (fun l S1 => l = [some (.ref 1), some (.int most), some (.int co), some (.int sh), some (.int ki), some (.int asks), some (.int many), some (.ref (pre.length + 2)), none] ∧ S1 = S5 ++ [.lst []]) (by simp only [wo_run, ws_seq, ws_if, wt_e, we_op, we_un, we_var, we_c, ws_asg, ws_ret, ws_drop, ws_next, ws_break, ws_cont, wg_name, wg_sub, wg_tup, wg_nil, wg_cons, we_call, we_methL, wa_cons, wa_nil, wt_and, wt_or, wt_not, we_and, we_or, we_not, we_if, wo_I0, wo_I, wo_plus, wo_ixT, wo_ixL, wo_lenT, wo_lenL, wo_abs, wo_intB, wo_tup, wo_lst, wo_tupleL, wo_eqI, wo_eqB, wo_neS, wo_is, wo_isnot, List.map_cons, List.map_nil, List.length_cons, List.length_nil, Nat.reduceAdd, Nat.reduceSub, List.replicate, List.cons_append, List.nil_append, List.getElem?_cons_zero, List.getElem?_cons_succ, List.set_cons_zero, List.set_cons_succ, ex_some, ex_some1, ex_bl, ex_int, st_0, st_1, st_w1, st_w2, at3_0, at3_1, at3_2, at2_0, at2_1, st_push, st_len, st_2, lstOf_last, hlen]; exact ⟨by decide, by first | rfl | trivial, by first | rfl | trivial⟩) ?_
  rintro l S6 ⟨rfl, rfl⟩
  refine ws_cut (fun l S1 => ∃ acc x8, l = [some (.ref 1), some (.int most), some (.int co), some (.int sh), some (.int ki), some (.int asks), some (.int many), some (.ref (pre.length + 2)), x8] ∧ (acc.length : Int) = many ∧ (∀ c ∈ acc, IsRoom asks many ki c) ∧ Pn ns (pre ++ [.lst acc]) (k + 5 + 20 * 24) S1) ?_ ?_
  · rw [ws_forR]
    simp only [wa_cons, wa_nil, we_var, List.getElem?_cons_zero, List.getElem?_cons_succ, ex_some, ex_int]
    refine ⟨by omega, ?_⟩
    refine (forX_inv (fun i l S1 => ∃ acc x8, l = [some (.ref 1), some (.int most), some (.int co), some (.int sh), some (.int ki), some (.int asks), some (.int many), some (.ref (pre.length + 2)), x8] ∧ acc.length = i ∧ (∀ c ∈ acc, IsRoom asks many ki c) ∧ Pn ns (pre ++ [.lst acc]) (k + 5 + 20 * i) S1) (rngD 0 many.toNat) 0 _ _ ⟨[], none, rfl, rfl, (by intro c hc; cases hc), by simpa using hp⟩ ?_).mono ?_
    · rintro i x l S2 hx ⟨acc, x8, rfl, hacc, hroom, p⟩
      obtain ⟨hi, rfl⟩ := rngD_get hx
      rw [Nat.zero_add] at hacc p
      simp only [wg_name, List.set_cons_zero, List.set_cons_succ]
      have fin : ∀ (S9 : Sto) (v : D), IsRoom asks many ki v → Pn ns (pre ++ [.lst acc]) (k + 5 + 20 * i + 20) S9 → S9[pre.length + 2]? = some (.lst acc) ∧ acc.length < sizeLine ∧ ∃ acc' x8', ([some (.ref 1), some (.int most), some (.int co), some (.int sh), some (.int ki), some (.int asks), some (.int many), some (.ref (pre.length + 2)), some (.int (0 + (i : Int)))] : Lo) = [some (.ref 1), some (.int most), some (.int co), some (.int sh), some (.int ki), some (.int asks), some (.int many), some (.ref (pre.length + 2)), x8'] ∧ acc'.length = 0 + i + 1 ∧ (∀ c ∈ acc', IsRoom asks many ki c) ∧ Pn ns (pre ++ [.lst acc']) (k + 5 + 20 * ((0 + i + 1 : Nat) : Int)) (S9.set (pre.length + 2) (.lst (acc ++ [v]))) := fun S9 v hv p9 => by
        refine ⟨pn_get p9, ?_, acc ++ [v], _, rfl, by simp [hacc], fun c hc => ?_, (pn_set p9).mono (by omega)⟩
        · have : (100 : Nat) < sizeLine := by decide
          omega
        · rcases List.mem_append.mp hc with hc | hc
          · exact hroom c hc
          · have : c = v := by simpa using hc
            rw [this]; exact hv
      refine ws_if' (fun b S1 => Pn ns (pre ++ [.lst acc]) (k + 5 + 20 * i + 1) S1 ∧ (b = true → 0 < i)) ?_ ?_ ?_
      · simp only [wo_run, ws_seq, ws_if, wt_e, we_op, we_un, we_var, we_c, ws_asg, ws_ret, ws_drop, ws_next, ws_break, ws_cont, wg_name, wg_sub, wg_tup, wg_nil, wg_cons, we_call, we_methL, wa_cons, wa_nil, wt_and, wt_or, wt_not, we_and, we_or, we_not, we_if, wo_I0, wo_I, wo_plus, wo_ixT, wo_ixL, wo_lenT, wo_lenL, wo_abs, wo_intB, wo_tup, wo_lst, wo_tupleL, wo_eqI, wo_eqB, wo_neS, wo_is, wo_isnot, List.map_cons, List.map_nil, List.length_cons, List.length_nil, Nat.reduceAdd, Nat.reduceSub, List.replicate, List.cons_append, List.nil_append, List.getElem?_cons_zero, List.getElem?_cons_succ, List.set_cons_zero, List.set_cons_succ, ex_some, ex_some1, ex_bl, ex_int, st_0, st_1, st_w1, st_w2, at3_0, at3_1, at3_2, at2_0, at2_1, st_push, st_len, st_2, lstOf_last, decide_eq_true_eq]
        split
        · rename_i hi0
          split
          · refine (take_pn ns _ _ (k + 5 + 20 * i) 3 p (by omega) (by decide) (by decide)).mono ?_
            rintro v S' ⟨⟨d, rfl, q1, q2⟩, p'⟩
            simp only [wo_run, ws_seq, ws_if, wt_e, we_op, we_un, we_var, we_c, ws_asg, ws_ret, ws_drop, ws_next, ws_break, ws_cont, wg_name, wg_sub, wg_tup, wg_nil, wg_cons, we_call, we_methL, wa_cons, wa_nil, wt_and, wt_or, wt_not, we_and, we_or, we_not, we_if, wo_I0, wo_I, wo_plus, wo_ixT, wo_ixL, wo_lenT, wo_lenL, wo_abs, wo_intB, wo_tup, wo_lst, wo_tupleL, wo_eqI, wo_eqB, wo_neS, wo_is, wo_isnot, List.map_cons, List.map_nil, List.length_cons, List.length_nil, Nat.reduceAdd, Nat.reduceSub, List.replicate, List.cons_append, List.nil_append, List.getElem?_cons_zero, List.getElem?_cons_succ, List.set_cons_zero, List.set_cons_succ, ex_some, ex_some1, ex_bl, ex_int, st_0, st_1, st_w1, st_w2, at3_0, at3_1, at3_2, at2_0, at2_1, st_push, st_len, st_2, lstOf_last]
            exact ⟨p', fun _ => by omega⟩
          · exact ⟨p.mono (by omega), fun z => by cases z⟩
        · exact ⟨p.mono (by omega), fun z => by cases z⟩
      · rintro S3 ⟨p3', hi0⟩
        have hi0 := hi0 rfl
        simp only [wo_run, ws_seq, ws_if, wt_e, we_op, we_un, we_var, we_c, ws_asg, ws_ret, ws_drop, ws_next, ws_break, ws_cont, wg_name, wg_sub, wg_tup, wg_nil, wg_cons, we_call, we_methL, wa_cons, wa_nil, wt_and, wt_or, wt_not, we_and, we_or, we_not, we_if, wo_I0, wo_I, wo_plus, wo_ixT, wo_ixL, wo_lenT, wo_lenL, wo_abs, wo_intB, wo_tup, wo_lst, wo_tupleL, wo_eqI, wo_eqB, wo_neS, wo_is, wo_isnot, List.map_cons, List.map_nil, List.length_cons, List.length_nil, Nat.reduceAdd, Nat.reduceSub, List.replicate, List.cons_append, List.nil_append, List.getElem?_cons_zero, List.getElem?_cons_succ, List.set_cons_zero, List.set_cons_succ, ex_some, ex_some1, ex_bl, ex_int, st_0, st_1, st_w1, st_w2, at3_0, at3_1, at3_2, at2_0, at2_1, st_push, st_len, st_2, lstOf_last, recv_ref, pn_lst p3', ex_ok, true_and]
        refine (take_pn ns _ _ (k + 5 + 20 * i + 1) (0 + (i : Int)) p3' (by omega) (by omega) (by omega)).mono ?_
        rintro v S' ⟨⟨d, rfl, q1, q2⟩, p'⟩
        obtain ⟨y, hy, hym⟩ := atI_in acc d q1 (by omega)
        simp only [wo_run, ws_seq, ws_if, wt_e, we_op, we_un, we_var, we_c, ws_asg, ws_ret, ws_drop, ws_next, ws_break, ws_cont, wg_name, wg_sub, wg_tup, wg_nil, wg_cons, we_call, we_methL, wa_cons, wa_nil, wt_and, wt_or, wt_not, we_and, we_or, we_not, we_if, wo_I0, wo_I, wo_plus, wo_ixT, wo_ixL, wo_lenT, wo_lenL, wo_abs, wo_intB, wo_tup, wo_lst, wo_tupleL, wo_eqI, wo_eqB, wo_neS, wo_is, wo_isnot, List.map_cons, List.map_nil, List.length_cons, List.length_nil, Nat.reduceAdd, Nat.reduceSub, List.replicate, List.cons_append, List.nil_append, List.getElem?_cons_zero, List.getElem?_cons_succ, List.set_cons_zero, List.set_cons_succ, ex_some, ex_some1, ex_bl, ex_int, st_0, st_1, st_w1, st_w2, at3_0, at3_1, at3_2, at2_0, at2_1, st_push, st_len, st_2, lstOf_last, pn_lst p', hy]
        refine (near_ok ns _ S' (k + 5 + 20 * i + 2) many ki asks y (hroom y hym) (by omega) (p'.mono (by omega)) (by omega) (by omega) (by omega) (by omega) (by omega) (by omega)).mono ?_
        rintro v S9 ⟨hv, p9⟩
        obtain ⟨f1, f2, f3⟩ := fin S9 v hv (p9.mono (by omega))
        simp only [wo_append, f1, Option.some.injEq, Ob.lst.injEq, exists_eq_left']
        exact ⟨f2, by first | exact .inl rfl | exact .inl trivial | trivial, f3⟩
      · rintro S3 ⟨p3', _⟩
        simp only [wo_run, ws_seq, ws_if, wt_e, we_op, we_un, we_var, we_c, ws_asg, ws_ret, ws_drop, ws_next, ws_break, ws_cont, wg_name, wg_sub, wg_tup, wg_nil, wg_cons, we_call, we_methL, wa_cons, wa_nil, wt_and, wt_or, wt_not, we_and, we_or, we_not, we_if, wo_I0, wo_I, wo_plus, wo_ixT, wo_ixL, wo_lenT, wo_lenL, wo_abs, wo_intB, wo_tup, wo_lst, wo_tupleL, wo_eqI, wo_eqB, wo_neS, wo_is, wo_isnot, List.map_cons, List.map_nil, List.length_cons, List.length_nil, Nat.reduceAdd, Nat.reduceSub, List.replicate, List.cons_append, List.nil_append, List.getElem?_cons_zero, List.getElem?_cons_succ, List.set_cons_zero, List.set_cons_succ, ex_some, ex_some1, ex_bl, ex_int, st_0, st_1, st_w1, st_w2, at3_0, at3_1, at3_2, at2_0, at2_1, st_push, st_len, st_2, lstOf_last, recv_ref, pn_lst p3', ex_ok, true_and]
        refine we_compR ?_
        simp only [wa_cons, wa_nil, we_var, List.getElem?_cons_zero, List.getElem?_cons_succ, ex_some, ex_int]
        refine ⟨by omega, ?_⟩
        obtain ⟨ys, S9, l9, e9, hys, hysc, p9⟩ := comp_inv (g := gName3 0) (e := eCall m_law_cell (aCons (eVar 1) (aCons (eVar 2) (aCons (eVar 3) (aCons (eVar 4) (aNil)))))) (fun j cs l S1 => (∃ x0, l = [x0, some (.ref 1), some (.int many), some (.int sh), some (.int ki)]) ∧ cs.length = j ∧ (∀ c ∈ cs, IsCell many ki c) ∧ Pn ns (pre ++ [.lst acc]) (k + 5 + 20 * i + 1 + 4 * j) S1) (rngD 0 (asks : Int).toNat) (by
          rintro j x l S1 cs hx ⟨⟨x0, rfl⟩, hcs, hc, pj⟩
          obtain ⟨hj, rfl⟩ := rngD_get hx
          simp only [wo_run, ws_seq, ws_if, wt_e, we_op, we_un, we_var, we_c, ws_asg, ws_ret, ws_drop, ws_next, ws_break, ws_cont, wg_name, wg_sub, wg_tup, wg_nil, wg_cons, we_call, we_methL, wa_cons, wa_nil, wt_and, wt_or, wt_not, we_and, we_or, we_not, we_if, wo_I0, wo_I, wo_plus, wo_ixT, wo_ixL, wo_lenT, wo_lenL, wo_abs, wo_intB, wo_tup, wo_lst, wo_tupleL, wo_eqI, wo_eqB, wo_neS, wo_is, wo_isnot, List.map_cons, List.map_nil, List.length_cons, List.length_nil, Nat.reduceAdd, Nat.reduceSub, List.replicate, List.cons_append, List.nil_append, List.getElem?_cons_zero, List.getElem?_cons_succ, List.set_cons_zero, List.set_cons_succ, ex_some, ex_some1, ex_bl, ex_int, st_0, st_1, st_w1, st_w2, at3_0, at3_1, at3_2, at2_0, at2_1, st_push, st_len, st_2, lstOf_last]
          refine (cell_ok ns _ S1 (k + 5 + 20 * i + 1 + 4 * j) many sh ki pj (by omega) (by omega) (by omega) (by omega) (by omega)).mono ?_
          rintro v S2 ⟨hv, p2'⟩
          refine ⟨⟨_, rfl⟩, by simp [hcs], fun c hcm => ?_, p2'.mono (by omega)⟩
          rcases List.mem_append.mp hcm with hcm | hcm
          · exact hc c hcm
          · have : c = v := by simpa using hcm
            rw [this]; exact hv) (asks : Int).toNat 0 _ S3 [] (by rw [rngD_len]; omega) ⟨⟨none, rfl⟩, rfl, (by intro c hc; cases hc), by simpa using p3'⟩
        rw [rngD_len] at hysc p9
        obtain ⟨hall, p9⟩ := p9
        rw [List.nil_append] at hysc hall
        refine ⟨ys, S9, e9, ?_, ?_⟩
        · have : (100 : Nat) < sizeLine := by decide
          omega
        · rw [wo_tupleL]
          refine ⟨ys, lstOf_last, ?_⟩
          obtain ⟨f1, f2, f3⟩ := fin (S9 ++ [.lst ys]) (.tup ys) ⟨ys, rfl, by omega, hall⟩ ((pn_app p9).mono (by omega))
          simp only [wo_append, f1, Option.some.injEq, Ob.lst.injEq, exists_eq_left']
          exact ⟨f2, by first | exact .inl rfl | exact .inl trivial | trivial, f3⟩
    · rintro f l' S' ⟨rfl, acc, x8, rfl, hacc, hroom, p⟩
      rw [rngD_len] at hacc p
      exact ⟨rfl, acc, x8, rfl, by omega, hroom, p.mono (by omega)⟩
  · rintro l S7 ⟨acc, x8, rfl, hacc, hroom, p⟩
    simp only [wo_run, ws_seq, ws_if, wt_e, we_op, we_un, we_var, we_c, ws_asg, ws_ret, ws_drop, ws_next, ws_break, ws_cont, wg_name, wg_sub, wg_tup, wg_nil, wg_cons, we_call, we_methL, wa_cons, wa_nil, wt_and, wt_or, wt_not, we_and, we_or, we_not, we_if, wo_I0, wo_I, wo_plus, wo_ixT, wo_ixL, wo_lenT, wo_lenL, wo_abs, wo_intB, wo_tup, wo_lst, wo_tupleL, wo_eqI, wo_eqB, wo_neS, wo_is, wo_isnot, List.map_cons, List.map_nil, List.length_cons, List.length_nil, Nat.reduceAdd, Nat.reduceSub, List.replicate, List.cons_append, List.nil_append, List.getElem?_cons_zero, List.getElem?_cons_succ, List.set_cons_zero, List.set_cons_succ, ex_some, ex_some1, ex_bl, ex_int, st_0, st_1, st_w1, st_w2, at3_0, at3_1, at3_2, at2_0, at2_1, st_push, st_len, st_2, lstOf_last, pn_lst p]
    refine ⟨by decide, ⟨many, asks, ⟨acc, rfl, as1, as2, hacc, ma1, fun r hr => (hroom r hr).mono ki2⟩, ma2⟩, ?_⟩
    rw [hpre, List.append_assoc] at p
    exact p.start.mono (by omega)
end M
set_option Elab.async false
set_option maxHeartbeats 4000000
set_option maxRecDepth 100000
namespace M
open PySem L3 G
theorem sizeBig : 100000 < sizeLine := by decide
theorem we_chain {f g : D → D → Sto → Option (D × Sto)} {a b c : EM} {l : Lo} {S : Sto} {Q : D → Sto → Prop} : We (eChain f g a b c) l S Q = We a l S fun x S1 => We b l S1 fun y S2 => Wo (f x y S2) fun r S3 => ∃ k, r = .bl k ∧ if k = true then We c l S3 fun z S4 => Wo (g y z S4) Q else Q (.bl false) S3 := by
  apply propext
  constructor
  · rintro ⟨v, S', h, q⟩
    obtain ⟨⟨x, S1⟩, h1, h⟩ := bnd h
    obtain ⟨⟨y, S2⟩, h2, h⟩ := bnd h
    obtain ⟨⟨r, S3⟩, h3, h⟩ := bnd h
    refine ⟨x, S1, h1, y, S2, h2, r, S3, h3, ?_⟩
    cases r with
    | bl k =>
      cases k with
      | true =>
        obtain ⟨⟨z, S4⟩, h4, h⟩ := bnd h
        exact ⟨true, rfl, z, S4, h4, v, S', h, q⟩
      | false => cases h; exact ⟨false, rfl, q⟩
    | _ => cases h
  · rintro ⟨x, S1, h1, y, S2, h2, r, S3, h3, k, rfl, h⟩
    cases k with
    | true =>
      obtain ⟨z, S4, h4, v, S', h, q⟩ := h
      refine ⟨v, S', ?_, q⟩
      unfold eChain; rw [h1]; show (b l S1).bind _ = _; rw [h2]; show (f x y S2).bind _ = _; rw [h3]; show (c l S3).bind _ = _; rw [h4]; exact h
    | false =>
      refine ⟨_, _, ?_, h⟩
      unfold eChain; rw [h1]; show (b l S1).bind _ = _; rw [h2]; show (f x y S2).bind _ = _; rw [h3]; rfl
theorem wo_isI {U : String} {x : D} {S : Sto} {Q : D → Sto → Prop} : Wo (fIsI U x S) Q = ∃ T, tyD S x = some T ∧ Q (.bl (isI T U)) S := by
  show Wo ((tyD S x).bind fun T => some (.bl (isI T U), S)) Q = _
  rw [wo_bind]; simp only [wo_some]
theorem wo_neI {i j : Int} {S : Sto} {Q : D → Sto → Prop} : Wo (dNe (.int i) (.int j) S) Q = Q (.bl (!decide (i = j))) S := wo_some
theorem wo_neB {i j : Bool} {S : Sto} {Q : D → Sto → Prop} : Wo (dNe (.bl i) (.bl j) S) Q = Q (.bl (!decide (i = j))) S := wo_some
theorem wo_eqS {i j : Str} {S : Sto} {Q : D → Sto → Prop} : Wo (dEq (.str i) (.str j) S) Q = Q (.bl (decide (i = j))) S := wo_some
theorem wo_isNotB {x : D} {b : Bool} {S : Sto} {Q : D → Sto → Prop} : Wo (dIsNotB x (.bl b) S) Q = Q (.bl (!isBl b x)) S := by cases x <;> exact wo_some
theorem ii_NoneType_int : isI "NoneType" "int" = false := by decide
theorem ii_NoneType_bool : isI "NoneType" "bool" = false := by decide
theorem ii_NoneType_tuple : isI "NoneType" "tuple" = false := by decide
theorem ii_bool_int : isI "bool" "int" = true := by decide
theorem ii_bool_bool : isI "bool" "bool" = true := by decide
theorem ii_bool_tuple : isI "bool" "tuple" = false := by decide
theorem ii_int_int : isI "int" "int" = true := by decide
theorem ii_int_bool : isI "int" "bool" = false := by decide
theorem ii_int_tuple : isI "int" "tuple" = false := by decide
theorem ii_str_int : isI "str" "int" = false := by decide
theorem ii_str_bool : isI "str" "bool" = false := by decide
theorem ii_str_tuple : isI "str" "tuple" = false := by decide
theorem ii_tuple_int : isI "tuple" "int" = false := by decide
theorem ii_tuple_bool : isI "tuple" "bool" = false := by decide
theorem ii_tuple_tuple : isI "tuple" "tuple" = true := by decide
theorem ii_list_int : isI "list" "int" = false := by decide
theorem ii_list_bool : isI "list" "bool" = false := by decide
theorem ii_list_tuple : isI "list" "tuple" = false := by decide
theorem ii_dict_int : isI "dict" "int" = false := by decide
theorem ii_dict_bool : isI "dict" "bool" = false := by decide
theorem ii_dict_tuple : isI "dict" "tuple" = false := by decide
def tyOk (S : Sto) : Nat → D → Bool
  | 0, _ => true
  | k + 1, d => (tyD S d).isSome && (match d with | .tup xs => decide (xs.length ≤ 1000) && xs.all (tyOk S k) | _ => true)
theorem tyOk.ty {S : Sto} {k : Nat} {d : D} (h : tyOk S (k + 1) d = true) : ∃ T, tyD S d = some T := by
  unfold tyOk at h
  rw [Bool.and_eq_true] at h
  exact Option.isSome_iff_exists.mp h.1
theorem tyOk.tup {S : Sto} {k : Nat} {xs : List D} (h : tyOk S (k + 1) (.tup xs) = true) : ∀ x ∈ xs, tyOk S k x = true := by
  unfold tyOk at h
  rw [Bool.and_eq_true, Bool.and_eq_true] at h
  exact List.all_eq_true.mp h.2.2
theorem tyOk.len {S : Sto} {k : Nat} {xs : List D} (h : tyOk S (k + 1) (.tup xs) = true) : xs.length ≤ 1000 := by
  unfold tyOk at h
  rw [Bool.and_eq_true, Bool.and_eq_true] at h
  exact of_decide_eq_true h.2.1
theorem tyOk.mk {S : Sto} {k : Nat} {xs : List D} (h : ∀ x ∈ xs, tyOk S k x = true) (hl : xs.length ≤ 1000) : tyOk S (k + 1) (.tup xs) = true := by
  unfold tyOk
  rw [Bool.and_eq_true, Bool.and_eq_true]
  exact ⟨rfl, decide_eq_true hl, List.all_eq_true.mpr h⟩
def below (d : D) (c : Int) : Bool := match d with
  | .int i => decide (0 ≤ i ∧ i < c)
  | _ => false
def cellB (d : D) (many : Int) : Bool := match d with
  | .tup [g, s] => (isNon g || below g many) && (isNon s || below s 8)
  | _ => false
def roomB (d : D) (asks many : Int) : Bool := match d with
  | .tup cs => decide ((cs.length : Int) = asks) && cs.all fun c => cellB c many
  | _ => false
def machB (d : D) : Bool := match d with
  | .tup [.int a, .tup rs] => decide (1 ≤ a ∧ a ≤ 4) && decide (1 ≤ (rs.length : Int) ∧ (rs.length : Int) ≤ 24) && rs.all fun r => roomB r a rs.length
  | _ => false
theorem ty_cases {S : Sto} {d : D} {T : String} (h : tyD S d = some T) : (T = "NoneType" ∧ d = .non) ∨ (T = "bool" ∧ ∃ b, d = .bl b) ∨ (T = "int" ∧ ∃ i, d = .int i) ∨ (T = "str" ∧ ∃ x, d = .str x) ∨ (T = "tuple" ∧ ∃ xs, d = .tup xs) ∨ (T = "list" ∧ ∃ n, d = .ref n) ∨ (T = "dict" ∧ ∃ n, d = .ref n) := by
  cases d with
  | non => cases h; exact .inl ⟨rfl, rfl⟩
  | bl b => cases h; exact .inr (.inl ⟨rfl, b, rfl⟩)
  | int b => cases h; exact .inr (.inr (.inl ⟨rfl, b, rfl⟩))
  | str b => cases h; exact .inr (.inr (.inr (.inl ⟨rfl, b, rfl⟩)))
  | tup b => cases h; exact .inr (.inr (.inr (.inr (.inl ⟨rfl, b, rfl⟩))))
  | ref n =>
    unfold tyD at h
    dsimp only at h
    split at h
    · cases h; exact .inr (.inr (.inr (.inr (.inr (.inl ⟨rfl, n, rfl⟩)))))
    · cases h; exact .inr (.inr (.inr (.inr (.inr (.inr ⟨rfl, n, rfl⟩)))))
    · cases h
  | fn a => cases h
theorem below_eq (S : Sto) (d : D) (c : Int) {T : String} (h : tyD S d = some T) : Wo (m_is_below [d, .int c] S) fun v S' => v = .bl (below d c) ∧ S' = S := by
  unfold m_is_below b_is_below
  simp only [wo_run, ws_seq, ws_if, wt_e, we_op, we_un, we_var, we_c, ws_asg, ws_ret, ws_drop, ws_next, ws_break, ws_cont, wg_name, wg_sub, wg_tup, wg_nil, wg_cons, we_call, we_methL, wa_cons, wa_nil, wt_and, wt_or, wt_not, we_and, we_or, we_not, we_if, wo_I0, wo_I, wo_plus, wo_ixT, wo_ixL, wo_lenT, wo_lenL, wo_abs, wo_intB, wo_tup, wo_lst, wo_tupleL, wo_eqI, wo_eqB, wo_neS, wo_is, wo_isnot, List.map_cons, List.map_nil, List.length_cons, List.length_nil, Nat.reduceAdd, Nat.reduceSub, List.replicate, List.cons_append, List.nil_append, List.getElem?_cons_zero, List.getElem?_cons_succ, List.set_cons_zero, List.set_cons_succ, ex_some, ex_some1, ex_bl, ex_int, st_0, st_1, st_w1, st_w2, at3_0, at3_1, at3_2, at2_0, at2_1, st_push, st_len, st_2, lstOf_last, wo_isI, h]
  rcases ty_cases h with ⟨rfl, rfl⟩ | ⟨rfl, b, rfl⟩ | ⟨rfl, i, rfl⟩ | ⟨rfl, x, rfl⟩ | ⟨rfl, x, rfl⟩ | ⟨rfl, x, rfl⟩ | ⟨rfl, x, rfl⟩ <;> simp only [ii_NoneType_int, ii_NoneType_bool, ii_NoneType_tuple, ii_bool_int, ii_bool_bool, ii_bool_tuple, ii_int_int, ii_int_bool, ii_int_tuple, ii_str_int, ii_str_bool, ii_str_tuple, ii_tuple_int, ii_tuple_bool, ii_tuple_tuple, ii_list_int, ii_list_bool, ii_list_tuple, ii_dict_int, ii_dict_bool, ii_dict_tuple, if_true, if_false, Bool.false_eq_true, Bool.not_true, Bool.not_false]
  · exact ⟨rfl, by first | rfl | trivial⟩
  · exact ⟨rfl, by first | rfl | trivial⟩
  · simp only [wo_run, ws_seq, ws_if, wt_e, we_op, we_un, we_var, we_c, ws_asg, ws_ret, ws_drop, ws_next, ws_break, ws_cont, wg_name, wg_sub, wg_tup, wg_nil, wg_cons, we_call, we_methL, wa_cons, wa_nil, wt_and, wt_or, wt_not, we_and, we_or, we_not, we_if, wo_I0, wo_I, wo_plus, wo_ixT, wo_ixL, wo_lenT, wo_lenL, wo_abs, wo_intB, wo_tup, wo_lst, wo_tupleL, wo_eqI, wo_eqB, wo_neS, wo_is, wo_isnot, List.map_cons, List.map_nil, List.length_cons, List.length_nil, Nat.reduceAdd, Nat.reduceSub, List.replicate, List.cons_append, List.nil_append, List.getElem?_cons_zero, List.getElem?_cons_succ, List.set_cons_zero, List.set_cons_succ, ex_some, ex_some1, ex_bl, ex_int, st_0, st_1, st_w1, st_w2, at3_0, at3_1, at3_2, at2_0, at2_1, st_push, st_len, st_2, lstOf_last, we_chain]
    unfold below
    by_cases h0 : 0 ≤ i
    · rw [if_pos (decide_eq_true h0)]
      refine ⟨?_, by first | rfl | trivial⟩
      congr 1
      simp [h0]
    · rw [if_neg (by simpa using h0)]
      refine ⟨?_, by first | rfl | trivial⟩
      congr 1
      simp [h0]
  · exact ⟨rfl, by first | rfl | trivial⟩
  · exact ⟨rfl, by first | rfl | trivial⟩
  · exact ⟨rfl, by first | rfl | trivial⟩
  · exact ⟨rfl, by first | rfl | trivial⟩
theorem upto_eq (S : Sto) (d : D) (c : Int) {T : String} (h : tyD S d = some T) : Wo (m_law_is_upto [d, .int c] S) fun v S' => v = .bl (below d (c + 1)) ∧ S' = S := by
  unfold m_law_is_upto b_law_is_upto
  simp only [wo_run, ws_seq, ws_if, wt_e, we_op, we_un, we_var, we_c, ws_asg, ws_ret, ws_drop, ws_next, ws_break, ws_cont, wg_name, wg_sub, wg_tup, wg_nil, wg_cons, we_call, we_methL, wa_cons, wa_nil, wt_and, wt_or, wt_not, we_and, we_or, we_not, we_if, wo_I0, wo_I, wo_plus, wo_ixT, wo_ixL, wo_lenT, wo_lenL, wo_abs, wo_intB, wo_tup, wo_lst, wo_tupleL, wo_eqI, wo_eqB, wo_neS, wo_is, wo_isnot, List.map_cons, List.map_nil, List.length_cons, List.length_nil, Nat.reduceAdd, Nat.reduceSub, List.replicate, List.cons_append, List.nil_append, List.getElem?_cons_zero, List.getElem?_cons_succ, List.set_cons_zero, List.set_cons_succ, ex_some, ex_some1, ex_bl, ex_int, st_0, st_1, st_w1, st_w2, at3_0, at3_1, at3_2, at2_0, at2_1, st_push, st_len, st_2, lstOf_last, wo_isI, h]
  rcases ty_cases h with ⟨rfl, rfl⟩ | ⟨rfl, b, rfl⟩ | ⟨rfl, i, rfl⟩ | ⟨rfl, x, rfl⟩ | ⟨rfl, x, rfl⟩ | ⟨rfl, x, rfl⟩ | ⟨rfl, x, rfl⟩ <;> simp only [ii_NoneType_int, ii_NoneType_bool, ii_NoneType_tuple, ii_bool_int, ii_bool_bool, ii_bool_tuple, ii_int_int, ii_int_bool, ii_int_tuple, ii_str_int, ii_str_bool, ii_str_tuple, ii_tuple_int, ii_tuple_bool, ii_tuple_tuple, ii_list_int, ii_list_bool, ii_list_tuple, ii_dict_int, ii_dict_bool, ii_dict_tuple, if_true, if_false, Bool.false_eq_true, Bool.not_true, Bool.not_false]
  · exact ⟨rfl, by first | rfl | trivial⟩
  · exact ⟨rfl, by first | rfl | trivial⟩
  · simp only [wo_run, ws_seq, ws_if, wt_e, we_op, we_un, we_var, we_c, ws_asg, ws_ret, ws_drop, ws_next, ws_break, ws_cont, wg_name, wg_sub, wg_tup, wg_nil, wg_cons, we_call, we_methL, wa_cons, wa_nil, wt_and, wt_or, wt_not, we_and, we_or, we_not, we_if, wo_I0, wo_I, wo_plus, wo_ixT, wo_ixL, wo_lenT, wo_lenL, wo_abs, wo_intB, wo_tup, wo_lst, wo_tupleL, wo_eqI, wo_eqB, wo_neS, wo_is, wo_isnot, List.map_cons, List.map_nil, List.length_cons, List.length_nil, Nat.reduceAdd, Nat.reduceSub, List.replicate, List.cons_append, List.nil_append, List.getElem?_cons_zero, List.getElem?_cons_succ, List.set_cons_zero, List.set_cons_succ, ex_some, ex_some1, ex_bl, ex_int, st_0, st_1, st_w1, st_w2, at3_0, at3_1, at3_2, at2_0, at2_1, st_push, st_len, st_2, lstOf_last, we_chain]
    unfold below
    by_cases h0 : 0 ≤ i
    · rw [if_pos (decide_eq_true h0)]
      refine ⟨?_, by first | rfl | trivial⟩
      congr 1
      apply decide_eq_decide.mpr
      omega
    · rw [if_neg (by simpa using h0)]
      refine ⟨?_, by first | rfl | trivial⟩
      congr 1
      simp [h0]
  · exact ⟨rfl, by first | rfl | trivial⟩
  · exact ⟨rfl, by first | rfl | trivial⟩
  · exact ⟨rfl, by first | rfl | trivial⟩
  · exact ⟨rfl, by first | rfl | trivial⟩
theorem cell_is (S : Sto) (d : D) (many : Int) (h : tyOk S 2 d = true) : Wo (m_is_cell [d, .int many] S) fun v S' => v = .bl (cellB d many) ∧ S' = S := by
  obtain ⟨T, ht⟩ := tyOk.ty h
  unfold m_is_cell b_is_cell
  simp only [wo_run, List.map_cons, List.map_nil, List.length_cons, List.length_nil, Nat.reduceAdd, Nat.reduceSub, List.replicate, List.cons_append, List.nil_append]
  rw [ws_seq]
  simp only [ws_if, wt_or, wt_not, wt_e, we_un, we_var, List.getElem?_cons_zero, List.getElem?_cons_succ, ex_some, wo_isI, ht, ex_some1, ex_bl]
  rcases ty_cases ht with ⟨rfl, rfl⟩ | ⟨rfl, b, rfl⟩ | ⟨rfl, i, rfl⟩ | ⟨rfl, x, rfl⟩ | ⟨rfl, xs, rfl⟩ | ⟨rfl, x, rfl⟩ | ⟨rfl, x, rfl⟩ <;> simp only [ii_NoneType_int, ii_NoneType_bool, ii_NoneType_tuple, ii_bool_int, ii_bool_bool, ii_bool_tuple, ii_int_int, ii_int_bool, ii_int_tuple, ii_str_int, ii_str_bool, ii_str_tuple, ii_tuple_int, ii_tuple_bool, ii_tuple_tuple, ii_list_int, ii_list_bool, ii_list_tuple, ii_dict_int, ii_dict_bool, ii_dict_tuple, if_true, if_false, Bool.false_eq_true, Bool.not_true, Bool.not_false, wo_run, ws_seq, ws_if, wt_e, we_op, we_un, we_var, we_c, ws_asg, ws_ret, ws_drop, ws_next, ws_break, ws_cont, wg_name, wg_sub, wg_tup, wg_nil, wg_cons, we_call, we_methL, wa_cons, wa_nil, wt_and, wt_or, wt_not, we_and, we_or, we_not, we_if, wo_I0, wo_I, wo_plus, wo_ixT, wo_ixL, wo_lenT, wo_lenL, wo_abs, wo_intB, wo_tup, wo_lst, wo_tupleL, wo_eqI, wo_eqB, wo_neS, wo_is, wo_isnot, List.map_cons, List.map_nil, List.length_cons, List.length_nil, Nat.reduceAdd, Nat.reduceSub, List.replicate, List.cons_append, List.nil_append, List.getElem?_cons_zero, List.getElem?_cons_succ, List.set_cons_zero, List.set_cons_succ, ex_some, ex_some1, ex_bl, ex_int, st_0, st_1, st_w1, st_w2, at3_0, at3_1, at3_2, at2_0, at2_1, st_push, st_len, st_2, lstOf_last]
  · exact ⟨rfl, by first | rfl | trivial⟩
  · exact ⟨rfl, by first | rfl | trivial⟩
  · exact ⟨rfl, by first | rfl | trivial⟩
  · exact ⟨rfl, by first | rfl | trivial⟩
  · rw [wo_neI]
    by_cases hl : (xs.length : Int) = 2
    · obtain ⟨g, s, rfl⟩ : ∃ g s, xs = [g, s] := by
        match xs, hl with
        | [g, s], _ => exact ⟨g, s, rfl⟩
        | [], h => simp at h
        | [_], h => simp at h
        | _ :: _ :: _ :: r, h => simp only [List.length_cons] at h; omega
      obtain ⟨T1, ht1⟩ := tyOk.ty (tyOk.tup h g (by simp))
      obtain ⟨T2, ht2⟩ := tyOk.ty (tyOk.tup h s (by simp))
      simp only [hl, decide_true, Bool.not_true, Bool.false_eq_true, if_false, wo_run, ws_seq, ws_if, wt_e, we_op, we_un, we_var, we_c, ws_asg, ws_ret, ws_drop, ws_next, ws_break, ws_cont, wg_name, wg_sub, wg_tup, wg_nil, wg_cons, we_call, we_methL, wa_cons, wa_nil, wt_and, wt_or, wt_not, we_and, we_or, we_not, we_if, wo_I0, wo_I, wo_plus, wo_ixT, wo_ixL, wo_lenT, wo_lenL, wo_abs, wo_intB, wo_tup, wo_lst, wo_tupleL, wo_eqI, wo_eqB, wo_neS, wo_is, wo_isnot, List.map_cons, List.map_nil, List.length_cons, List.length_nil, Nat.reduceAdd, Nat.reduceSub, List.replicate, List.cons_append, List.nil_append, List.getElem?_cons_zero, List.getElem?_cons_succ, List.set_cons_zero, List.set_cons_succ, ex_some, ex_some1, ex_bl, ex_int, st_0, st_1, st_w1, st_w2, at3_0, at3_1, at3_2, at2_0, at2_1, st_push, st_len, st_2, lstOf_last]
      refine ⟨by first | rfl | trivial, ?_⟩
      unfold cellB
      have sh : ∀ b, D.bl b = D.bl ((isNon g || below g many) && (isNon s || below s 8)) → D.bl b = D.bl (match D.tup [g, s] with | D.tup [g, s] => (isNon g || below g many) && (isNon s || below s 8) | x => false) := fun b h => h
      cases eg : isNon g with
      | true =>
        rw [if_pos rfl]
        cases es : isNon s with
        | true => rw [if_pos rfl]; exact ⟨sh _ (by rw [eg, es]; rfl), by first | rfl | trivial⟩
        | false =>
          rw [if_neg Bool.false_ne_true]
          refine (below_eq S s 8 ht2).mono ?_
          rintro v S' ⟨rfl, rfl⟩
          exact ⟨sh _ (by rw [eg, es]; simp), rfl⟩
      | false =>
        rw [if_neg Bool.false_ne_true]
        refine (below_eq S g many ht1).mono ?_
        rintro v S' ⟨rfl, rfl⟩
        refine ⟨_, rfl, ?_⟩
        cases eb : below g many with
        | false => rw [if_neg Bool.false_ne_true]; exact ⟨sh _ (by rw [eg, eb]; rfl), by first | rfl | trivial⟩
        | true =>
          rw [if_pos rfl]
          cases es : isNon s with
          | true => rw [if_pos rfl]; exact ⟨sh _ (by rw [eg, eb, es]; rfl), by first | rfl | trivial⟩
          | false =>
            rw [if_neg Bool.false_ne_true]
            refine (below_eq S' s 8 ht2).mono ?_
            rintro v S2 ⟨rfl, rfl⟩
            exact ⟨sh _ (by rw [eg, eb, es]; simp), rfl⟩
    · simp only [hl, decide_false, Bool.not_false, if_true, wo_run, ws_seq, ws_if, wt_e, we_op, we_un, we_var, we_c, ws_asg, ws_ret, ws_drop, ws_next, ws_break, ws_cont, wg_name, wg_sub, wg_tup, wg_nil, wg_cons, we_call, we_methL, wa_cons, wa_nil, wt_and, wt_or, wt_not, we_and, we_or, we_not, we_if, wo_I0, wo_I, wo_plus, wo_ixT, wo_ixL, wo_lenT, wo_lenL, wo_abs, wo_intB, wo_tup, wo_lst, wo_tupleL, wo_eqI, wo_eqB, wo_neS, wo_is, wo_isnot, List.map_cons, List.map_nil, List.length_cons, List.length_nil, Nat.reduceAdd, Nat.reduceSub, List.replicate, List.cons_append, List.nil_append, List.getElem?_cons_zero, List.getElem?_cons_succ, List.set_cons_zero, List.set_cons_succ, ex_some, ex_some1, ex_bl, ex_int, st_0, st_1, st_w1, st_w2, at3_0, at3_1, at3_2, at2_0, at2_1, st_push, st_len, st_2, lstOf_last]
      refine ⟨?_, by first | rfl | trivial⟩
      congr 1
      unfold cellB
      match xs, hl with
      | [g, s], h => simp at h
      | [], h => rfl
      | [_], h => rfl
      | _ :: _ :: _ :: r, h => rfl
  · exact ⟨rfl, by first | rfl | trivial⟩
  · exact ⟨rfl, by first | rfl | trivial⟩
theorem two_of {xs : List D} (hl : (xs.length : Int) = 2) : ∃ g s, xs = [g, s] := by
  match xs, hl with
  | [g, s], _ => exact ⟨g, s, rfl⟩
  | [], h => simp at h
  | [_], h => simp at h
  | _ :: _ :: _ :: r, h => simp only [List.length_cons] at h; omega
theorem cellB_two {xs : List D} {many : Int} (hl : ¬ (xs.length : Int) = 2) : cellB (.tup xs) many = false := by
  unfold cellB
  match xs, hl with
  | [g, s], h => simp at h
  | [], h => rfl
  | [_], h => rfl
  | _ :: _ :: _ :: r, h => rfl
theorem law_cell_is (S : Sto) (d : D) (many : Int) (h : tyOk S 2 d = true) : Wo (m_law_is_cell [d, .int many] S) fun v S' => v = .bl (cellB d many) ∧ S' = S := by
  obtain ⟨T, ht⟩ := tyOk.ty h
  unfold m_law_is_cell b_law_is_cell
  simp only [wo_run, List.map_cons, List.map_nil, List.length_cons, List.length_nil, Nat.reduceAdd, Nat.reduceSub, List.replicate, List.cons_append, List.nil_append]
  rw [ws_seq]
  simp only [ws_if, wt_or, wt_not, wt_e, we_un, we_var, List.getElem?_cons_zero, List.getElem?_cons_succ, ex_some, wo_isI, ht, ex_some1, ex_bl]
  rcases ty_cases ht with ⟨rfl, rfl⟩ | ⟨rfl, b, rfl⟩ | ⟨rfl, i, rfl⟩ | ⟨rfl, x, rfl⟩ | ⟨rfl, xs, rfl⟩ | ⟨rfl, x, rfl⟩ | ⟨rfl, x, rfl⟩ <;> simp only [ii_NoneType_int, ii_NoneType_bool, ii_NoneType_tuple, ii_bool_int, ii_bool_bool, ii_bool_tuple, ii_int_int, ii_int_bool, ii_int_tuple, ii_str_int, ii_str_bool, ii_str_tuple, ii_tuple_int, ii_tuple_bool, ii_tuple_tuple, ii_list_int, ii_list_bool, ii_list_tuple, ii_dict_int, ii_dict_bool, ii_dict_tuple, if_true, if_false, Bool.false_eq_true, Bool.not_true, Bool.not_false, wo_run, ws_seq, ws_if, wt_e, we_op, we_un, we_var, we_c, ws_asg, ws_ret, ws_drop, ws_next, ws_break, ws_cont, wg_name, wg_sub, wg_tup, wg_nil, wg_cons, we_call, we_methL, wa_cons, wa_nil, wt_and, wt_or, wt_not, we_and, we_or, we_not, we_if, wo_I0, wo_I, wo_plus, wo_ixT, wo_ixL, wo_lenT, wo_lenL, wo_abs, wo_intB, wo_tup, wo_lst, wo_tupleL, wo_eqI, wo_eqB, wo_neS, wo_is, wo_isnot, List.map_cons, List.map_nil, List.length_cons, List.length_nil, Nat.reduceAdd, Nat.reduceSub, List.replicate, List.cons_append, List.nil_append, List.getElem?_cons_zero, List.getElem?_cons_succ, List.set_cons_zero, List.set_cons_succ, ex_some, ex_some1, ex_bl, ex_int, st_0, st_1, st_w1, st_w2, at3_0, at3_1, at3_2, at2_0, at2_1, st_push, st_len, st_2, lstOf_last]
  · exact ⟨rfl, by first | rfl | trivial⟩
  · exact ⟨rfl, by first | rfl | trivial⟩
  · exact ⟨rfl, by first | rfl | trivial⟩
  · exact ⟨rfl, by first | rfl | trivial⟩
  · rw [wo_neI]
    by_cases hl : (xs.length : Int) = 2
    · obtain ⟨g, s, rfl⟩ := two_of hl
      obtain ⟨T1, ht1⟩ := tyOk.ty (tyOk.tup h g (by simp))
      obtain ⟨T2, ht2⟩ := tyOk.ty (tyOk.tup h s (by simp))
      simp only [hl, decide_true, Bool.not_true, Bool.false_eq_true, if_false, wo_run, ws_seq, ws_if, wt_e, we_op, we_un, we_var, we_c, ws_asg, ws_ret, ws_drop, ws_next, ws_break, ws_cont, wg_name, wg_sub, wg_tup, wg_nil, wg_cons, we_call, we_methL, wa_cons, wa_nil, wt_and, wt_or, wt_not, we_and, we_or, we_not, we_if, wo_I0, wo_I, wo_plus, wo_ixT, wo_ixL, wo_lenT, wo_lenL, wo_abs, wo_intB, wo_tup, wo_lst, wo_tupleL, wo_eqI, wo_eqB, wo_neS, wo_is, wo_isnot, List.map_cons, List.map_nil, List.length_cons, List.length_nil, Nat.reduceAdd, Nat.reduceSub, List.replicate, List.cons_append, List.nil_append, List.getElem?_cons_zero, List.getElem?_cons_succ, List.set_cons_zero, List.set_cons_succ, ex_some, ex_some1, ex_bl, ex_int, st_0, st_1, st_w1, st_w2, at3_0, at3_1, at3_2, at2_0, at2_1, st_push, st_len, st_2, lstOf_last]
      have e1 : many - 1 + 1 = many := by omega
      have sh : ∀ b, D.bl b = D.bl ((isNon g || below g many) && (isNon s || below s 8)) → D.bl b = D.bl (cellB (D.tup [g, s]) many) := fun b h => h
      cases eg : isNon g with
      | true =>
        simp only [Bool.not_true, Bool.false_eq_true, if_false]
        cases es : isNon s with
        | true => rw [if_pos rfl]; exact ⟨sh _ (by rw [eg, es]; rfl), by first | rfl | trivial⟩
        | false =>
          rw [if_neg Bool.false_ne_true]
          refine (upto_eq S s 7 ht2).mono ?_
          rintro v S' ⟨rfl, rfl⟩
          exact ⟨sh _ (by rw [eg, es]; simp), rfl⟩
      | false =>
        simp only [Bool.not_false, if_true]
        refine (upto_eq S g (many - 1) ht1).mono ?_
        rintro v S' ⟨rfl, rfl⟩
        rw [e1]
        simp only [ex_bl]
        cases eb : below g many with
        | false => simp only [Bool.not_false, if_true]; exact ⟨sh _ (by rw [eg, eb]; rfl), by first | rfl | trivial⟩
        | true =>
          simp only [Bool.not_true, Bool.false_eq_true, if_false]
          cases es : isNon s with
          | true => rw [if_pos rfl]; exact ⟨sh _ (by rw [eg, eb, es]; rfl), by first | rfl | trivial⟩
          | false =>
            rw [if_neg Bool.false_ne_true]
            refine (upto_eq S' s 7 ht2).mono ?_
            rintro v S2 ⟨rfl, rfl⟩
            exact ⟨sh _ (by rw [eg, eb, es]; simp), rfl⟩
    · simp only [hl, decide_false, Bool.not_false, if_true, wo_run, ws_seq, ws_if, wt_e, we_op, we_un, we_var, we_c, ws_asg, ws_ret, ws_drop, ws_next, ws_break, ws_cont, wg_name, wg_sub, wg_tup, wg_nil, wg_cons, we_call, we_methL, wa_cons, wa_nil, wt_and, wt_or, wt_not, we_and, we_or, we_not, we_if, wo_I0, wo_I, wo_plus, wo_ixT, wo_ixL, wo_lenT, wo_lenL, wo_abs, wo_intB, wo_tup, wo_lst, wo_tupleL, wo_eqI, wo_eqB, wo_neS, wo_is, wo_isnot, List.map_cons, List.map_nil, List.length_cons, List.length_nil, Nat.reduceAdd, Nat.reduceSub, List.replicate, List.cons_append, List.nil_append, List.getElem?_cons_zero, List.getElem?_cons_succ, List.set_cons_zero, List.set_cons_succ, ex_some, ex_some1, ex_bl, ex_int, st_0, st_1, st_w1, st_w2, at3_0, at3_1, at3_2, at2_0, at2_1, st_push, st_len, st_2, lstOf_last]
      exact ⟨by rw [cellB_two hl], by first | rfl | trivial⟩
  · exact ⟨rfl, by first | rfl | trivial⟩
  · exact ⟨rfl, by first | rfl | trivial⟩
end M
set_option Elab.async false
set_option maxHeartbeats 4000000
set_option maxRecDepth 100000
namespace M
open PySem L3 G
theorem tyD_app {S T : Sto} {d : D} {x : String} (h : tyD S d = some x) : tyD (S ++ T) d = some x := by
  cases d with
  | ref n =>
    unfold tyD at h ⊢
    dsimp only at h ⊢
    cases e : S[n]? with
    | none => rw [e] at h; cases h
    | some o => rw [List.getElem?_append_left (List.getElem?_eq_some_iff.mp e).1, e]; rw [e] at h; exact h
  | _ => exact h
theorem tyOk_app {S T : Sto} : ∀ {k : Nat} {d : D}, tyOk S k d = true → tyOk (S ++ T) k d = true
  | 0, d, _ => by unfold tyOk; rfl
  | k + 1, d, h => by
    obtain ⟨x, hx⟩ := tyOk.ty h
    cases d with
    | tup xs => exact tyOk.mk (fun y hy => tyOk_app (tyOk.tup h y hy)) (tyOk.len h)
    | _ => unfold tyOk; rw [tyD_app hx]; rfl
theorem we_compT {a : EM} {g : GM} {t : TM} {e : EM} {ixs : List (Option Nat)} {l : Lo} {S : Sto} {Q : D → Sto → Prop} (h : We a l S fun x S1 => ∃ xs, x = .tup xs ∧ ∃ ys S2, compG (itX xs) g t e (xs.length + 1) 0 (srcL ixs l) S1 = some (ys, S2) ∧ ys.length ≤ sizeLine ∧ Q (.ref S2.length) (S2 ++ [.lst ys])) :
    We (eComp (iVal a) ixs g t e) l S Q := by
  obtain ⟨x, S1, h1, xs, rfl, ys, S2, h2, h3, q⟩ := h
  refine ⟨_, _, ?_, q⟩
  unfold eComp iVal
  show ((a l S).bind _).bind _ = _
  rw [h1]
  show (compG (itX xs) g t e (xs.length + 1) 0 (srcL ixs l) S1).bind _ = _
  rw [h2]
  show (if _ then _ else _) = _
  rw [if_pos h3]
theorem comp_map {g : GM} {e : EM} {S : Sto} (f : D → D) (P : Lo → Prop) (xs : List D) (step : ∀ x ∈ xs, ∀ l ex, P l → Wg (g x l (S ++ ex)) fun l1 S1 => We e l1 S1 fun y S2 => y = f x ∧ P l1 ∧ ∃ ex2, S2 = S ++ ex2) (l : Lo) (hl : P l) :
    ∃ S', compG (itX xs) g tTrue e (xs.length + 1) 0 l S = some (xs.map f, S') ∧ ∃ ex, S' = S ++ ex := by
  obtain ⟨ys, S', l', e1, h1, _, ex, h2⟩ := comp_inv (g := g) (e := e) (fun i acc l S1 => acc = (xs.take i).map f ∧ P l ∧ ∃ ex, S1 = S ++ ex) xs (by
    rintro i x l S1 acc hx ⟨rfl, hP, ex, rfl⟩
    obtain ⟨l1, S2, e1, y, S3, e2, rfl, h2, h3⟩ := step x (List.mem_of_getElem? hx) l ex hP
    refine ⟨l1, S2, e1, _, S3, e2, ?_, h2, h3⟩
    rw [List.take_add_one, hx, List.map_append]; rfl) xs.length 0 l S [] (by omega) ⟨by simp, hl, [], by rw [List.append_nil]⟩
  rw [List.nil_append, List.take_length] at h1
  subst h1
  exact ⟨S', e1, ex, h2⟩
theorem wo_all {S : Sto} {n : Nat} {xs : List D} {f : D → Bool} {Q : D → Sto → Prop} (h : lstOf S n = some (xs.map fun x => D.bl (f x))) : Wo (fAll [.ref n] S) Q = Q (.bl (xs.all f)) S := by
  have : fAll [.ref n] S = some (.bl (xs.all f), S) := by
    unfold fAll
    dsimp only
    rw [h]
    show (if _ then _ else _) = _
    rw [if_pos (by rw [List.all_map, List.all_eq_true]; intro x _; rfl), List.all_map]
    rfl
  rw [this]; exact wo_some
theorem roomB_tup (cs : List D) (asks many : Int) : roomB (.tup cs) asks many = (decide ((cs.length : Int) = asks) && cs.all fun c => cellB c many) := rfl
theorem machB_mk (a : Int) (rs : List D) : machB (.tup [.int a, .tup rs]) = (decide (1 ≤ a ∧ a ≤ 4) && decide (1 ≤ (rs.length : Int) ∧ (rs.length : Int) ≤ 24) && rs.all fun r => roomB r a rs.length) := rfl
theorem room_is (S : Sto) (d : D) (asks many : Int) (h : tyOk S 3 d = true) (hz : ∀ cs, d = .tup cs → cs.length ≤ 100000) : Wo (m_is_room [d, .int asks, .int many] S) fun v S' => v = .bl (roomB d asks many) ∧ ∃ ex, S' = S ++ ex := by
  obtain ⟨T, ht⟩ := tyOk.ty h
  have sz := sizeBig
  unfold m_is_room b_is_room
  simp only [wo_run, List.map_cons, List.map_nil, List.length_cons, List.length_nil, Nat.reduceAdd, Nat.reduceSub, List.replicate, List.cons_append, List.nil_append]
  rw [ws_seq]
  simp only [ws_if, wt_or, wt_not, wt_e, we_un, we_var, List.getElem?_cons_zero, List.getElem?_cons_succ, ex_some, wo_isI, ht, ex_some1, ex_bl]
  rcases ty_cases ht with ⟨rfl, rfl⟩ | ⟨rfl, b, rfl⟩ | ⟨rfl, i, rfl⟩ | ⟨rfl, x, rfl⟩ | ⟨rfl, xs, rfl⟩ | ⟨rfl, x, rfl⟩ | ⟨rfl, x, rfl⟩ <;> simp only [ii_NoneType_int, ii_NoneType_bool, ii_NoneType_tuple, ii_bool_int, ii_bool_bool, ii_bool_tuple, ii_int_int, ii_int_bool, ii_int_tuple, ii_str_int, ii_str_bool, ii_str_tuple, ii_tuple_int, ii_tuple_bool, ii_tuple_tuple, ii_list_int, ii_list_bool, ii_list_tuple, ii_dict_int, ii_dict_bool, ii_dict_tuple, if_true, if_false, Bool.false_eq_true, Bool.not_true, Bool.not_false, ws_ret, ws_next, we_c, we_op, we_call, wa_cons, wa_nil, we_var, List.getElem?_cons_zero, List.getElem?_cons_succ, ex_some, wo_lenT, wo_neI, ex_bl]
  · exact ⟨rfl, [], by rw [List.append_nil]⟩
  · exact ⟨rfl, [], by rw [List.append_nil]⟩
  · exact ⟨rfl, [], by rw [List.append_nil]⟩
  · exact ⟨rfl, [], by rw [List.append_nil]⟩
  · by_cases hl : (xs.length : Int) = asks
    · rw [decide_eq_true hl]
      simp only [Bool.not_true, Bool.false_eq_true, if_false]
      refine we_compT ?_
      simp only [we_var, List.getElem?_cons_zero, List.getElem?_cons_succ, ex_some]
      refine ⟨xs, rfl, ?_⟩
      obtain ⟨S9, e9, ex, rfl⟩ := comp_map (S := S) (g := gName3 0) (e := eCall m_is_cell (aCons (eVar 0) (aCons (eVar 1) (aNil)))) (fun c => .bl (cellB c many)) (fun l => ∃ x0, l = [x0, some (.int many)]) xs (by
        rintro x hx l ex ⟨x0, rfl⟩
        simp only [wg_name, List.set_cons_zero, we_call, wa_cons, wa_nil, we_var, List.getElem?_cons_zero, List.getElem?_cons_succ, ex_some]
        refine (cell_is (S ++ ex) x many (tyOk_app (tyOk.tup h x hx))).mono ?_
        rintro v S' ⟨rfl, rfl⟩
        exact ⟨rfl, ⟨_, rfl⟩, ex, rfl⟩) _ ⟨none, rfl⟩
      refine ⟨_, _, e9, by rw [List.length_map]; have := hz xs rfl; omega, ?_⟩
      rw [wo_all lstOf_last]
      refine ⟨?_, _, by rw [List.append_assoc]⟩
      rw [roomB_tup, decide_eq_true hl]; rfl
    · rw [decide_eq_false hl]
      simp only [Bool.not_false, if_true]
      refine ⟨?_, [], by rw [List.append_nil]⟩
      rw [roomB_tup, decide_eq_false hl]; rfl
  · exact ⟨rfl, [], by rw [List.append_nil]⟩
  · exact ⟨rfl, [], by rw [List.append_nil]⟩
theorem machB_two {xs : List D} (hl : ¬ (xs.length : Int) = 2) : machB (.tup xs) = false := by
  unfold machB
  split
  · rename_i e; cases e; simp at hl
  · rfl
theorem mach_is (S : Sto) (d : D) (h : tyOk S 5 d = true) (hz : ∀ x rs, d = .tup [x, .tup rs] → ∀ cs, .tup cs ∈ rs → cs.length ≤ 100000) : Wo (m_is_machine [d] S) fun v S' => v = .bl (machB d) ∧ ∃ ex, S' = S ++ ex := by
  obtain ⟨T, ht⟩ := tyOk.ty h
  have sz := sizeBig
  unfold m_is_machine b_is_machine
  simp only [wo_run, List.map_cons, List.map_nil, List.length_cons, List.length_nil, Nat.reduceAdd, Nat.reduceSub, List.replicate, List.cons_append, List.nil_append]
  rw [ws_seq]
  simp only [ws_if, wt_or, wt_not, wt_e, we_un, we_var, List.getElem?_cons_zero, List.getElem?_cons_succ, ex_some, wo_isI, ht, ex_some1, ex_bl]
  rcases ty_cases ht with ⟨rfl, rfl⟩ | ⟨rfl, b, rfl⟩ | ⟨rfl, i, rfl⟩ | ⟨rfl, x, rfl⟩ | ⟨rfl, xs, rfl⟩ | ⟨rfl, x, rfl⟩ | ⟨rfl, x, rfl⟩ <;> simp only [ii_NoneType_int, ii_NoneType_bool, ii_NoneType_tuple, ii_bool_int, ii_bool_bool, ii_bool_tuple, ii_int_int, ii_int_bool, ii_int_tuple, ii_str_int, ii_str_bool, ii_str_tuple, ii_tuple_int, ii_tuple_bool, ii_tuple_tuple, ii_list_int, ii_list_bool, ii_list_tuple, ii_dict_int, ii_dict_bool, ii_dict_tuple, if_true, if_false, Bool.false_eq_true, Bool.not_true, Bool.not_false, ws_ret, ws_next, we_c, we_op, we_call, wa_cons, wa_nil, we_var, List.getElem?_cons_zero, List.getElem?_cons_succ, ex_some, wo_lenT, wo_neI, ex_bl]
  · exact ⟨rfl, [], by rw [List.append_nil]⟩
  · exact ⟨rfl, [], by rw [List.append_nil]⟩
  · exact ⟨rfl, [], by rw [List.append_nil]⟩
  · exact ⟨rfl, [], by rw [List.append_nil]⟩
  · by_cases hl : (xs.length : Int) = 2
    · rw [decide_eq_true hl]
      simp only [Bool.not_true, Bool.false_eq_true, if_false]
      obtain ⟨a, rs, rfl⟩ := two_of hl
      obtain ⟨T1, ht1⟩ := tyOk.ty (tyOk.tup h a (by simp))
      obtain ⟨T2, ht2⟩ := tyOk.ty (tyOk.tup h rs (by simp))
      refine ws_cut (fun l S1 => l = [some (.tup [a, rs]), some a, some rs] ∧ S1 = S) (by simp only [wo_run, ws_seq, ws_if, wt_e, we_op, we_un, we_var, we_c, ws_asg, ws_ret, ws_drop, ws_next, ws_break, ws_cont, wg_name, wg_sub, wg_tup, wg_nil, wg_cons, we_call, we_methL, wa_cons, wa_nil, wt_and, wt_or, wt_not, we_and, we_or, we_not, we_if, wo_I0, wo_I, wo_plus, wo_ixT, wo_ixL, wo_lenT, wo_lenL, wo_abs, wo_intB, wo_tup, wo_lst, wo_tupleL, wo_eqI, wo_eqB, wo_neS, wo_is, wo_isnot, List.map_cons, List.map_nil, List.length_cons, List.length_nil, Nat.reduceAdd, Nat.reduceSub, List.replicate, List.cons_append, List.nil_append, List.getElem?_cons_zero, List.getElem?_cons_succ, List.set_cons_zero, List.set_cons_succ, ex_some, ex_some1, ex_bl, ex_int, st_0, st_1, st_w1, st_w2, at3_0, at3_1, at3_2, at2_0, at2_1, st_push, st_len, st_2, lstOf_last, and_self]) ?_
      rintro l S1 ⟨rfl, rfl⟩
      rw [ws_seq]
      simp only [ws_if, wt_or, wt_not, wt_e, we_call, wa_cons, wa_nil, we_op, we_var, we_c, List.getElem?_cons_zero, List.getElem?_cons_succ, ex_some, wo_plus]
      refine (below_eq S1 a (4 + 1) ht1).mono ?_
      rintro v S2 ⟨rfl, rfl⟩
      simp only [ex_bl]
      cases eb : below a (4 + 1) with
      | false =>
        simp only [Bool.not_false, if_true, ws_ret, we_c]
        refine ⟨?_, [], by rw [List.append_nil]⟩
        have : machB (.tup [a, rs]) = false := by
          unfold machB
          split
          · rename_i a' rs' e
            cases e
            unfold below at eb
            have : ¬ (0 ≤ a' ∧ a' < 4 + 1) := of_decide_eq_false eb
            rw [decide_eq_false (by omega)]; rfl
          · rfl
        rw [this]
      | true =>
        obtain ⟨ai, rfl, a0, a1⟩ : ∃ ai : Int, a = .int ai ∧ 0 ≤ ai ∧ ai < 4 + 1 := by
          unfold below at eb
          split at eb
          · rename_i i; have := of_decide_eq_true eb; exact ⟨i, rfl, this.1, this.2⟩
          · cases eb
        simp only [Bool.not_true, Bool.false_eq_true, if_false, wo_eqI, ex_bl]
        by_cases hz0 : ai = 0
        · rw [decide_eq_true hz0]
          simp only [if_true, ws_ret, we_c]
          refine ⟨?_, [], by rw [List.append_nil]⟩
          have : machB (.tup [.int ai, rs]) = false := by
            unfold machB
            split
            · rename_i a' rs' e
              cases e
              rw [decide_eq_false (by omega)]; rfl
            · rfl
          rw [this]
        · rw [decide_eq_false hz0]
          simp only [Bool.false_eq_true, if_false, ws_next]
          rw [ws_seq]
          simp only [ws_if, wt_or, wt_not, wt_e, we_un, we_var, List.getElem?_cons_zero, List.getElem?_cons_succ, ex_some, wo_isI, ht2, ex_some1, ex_bl]
          rcases ty_cases ht2 with ⟨rfl, rfl⟩ | ⟨rfl, b, rfl⟩ | ⟨rfl, i, rfl⟩ | ⟨rfl, x, rfl⟩ | ⟨rfl, rr, rfl⟩ | ⟨rfl, x, rfl⟩ | ⟨rfl, x, rfl⟩ <;> simp only [ii_NoneType_int, ii_NoneType_bool, ii_NoneType_tuple, ii_bool_int, ii_bool_bool, ii_bool_tuple, ii_int_int, ii_int_bool, ii_int_tuple, ii_str_int, ii_str_bool, ii_str_tuple, ii_tuple_int, ii_tuple_bool, ii_tuple_tuple, ii_list_int, ii_list_bool, ii_list_tuple, ii_dict_int, ii_dict_bool, ii_dict_tuple, if_true, if_false, Bool.false_eq_true, Bool.not_true, Bool.not_false, ws_ret, ws_next, we_c, we_chain, we_call, wa_cons, wa_nil, we_var, List.getElem?_cons_zero, List.getElem?_cons_succ, ex_some, wo_lenT, wo_I0, ex_bl]
          · exact ⟨rfl, [], by rw [List.append_nil]⟩
          · exact ⟨rfl, [], by rw [List.append_nil]⟩
          · exact ⟨rfl, [], by rw [List.append_nil]⟩
          · exact ⟨rfl, [], by rw [List.append_nil]⟩
          · have hfalse : ¬ (1 ≤ (rr.length : Int) ∧ (rr.length : Int) ≤ 24) → machB (.tup [.int ai, .tup rr]) = false := fun hn => by
              rw [machB_mk, decide_eq_false hn, Bool.and_false]; rfl
            by_cases h1 : (1 : Int) ≤ rr.length
            · rw [decide_eq_true h1]
              simp only [if_true]
              by_cases h2 : (rr.length : Int) ≤ 24
              · rw [decide_eq_true h2]
                simp only [Bool.not_true, Bool.false_eq_true, if_false]
                refine we_compT ?_
                simp only [we_var, List.getElem?_cons_zero, List.getElem?_cons_succ, ex_some]
                refine ⟨rr, rfl, ?_⟩
                have hty := tyOk.tup (tyOk.tup h (.tup rr) (by simp))
                obtain ⟨S9, e9, ex, rfl⟩ := comp_map (S := S2) (g := gName3 0) (e := eCall m_is_room (aCons (eVar 0) (aCons (eVar 1) (aCons (eCall fLen (aCons (eVar 2) (aNil))) (aNil))))) (fun c => .bl (roomB c ai rr.length)) (fun l => ∃ x0, l = [x0, some (.int ai), some (.tup rr)]) rr (by
                  rintro x hx l ex ⟨x0, rfl⟩
                  simp only [wg_name, List.set_cons_zero, we_call, wa_cons, wa_nil, we_var, List.getElem?_cons_zero, List.getElem?_cons_succ, ex_some, wo_lenT]
                  refine (room_is (S2 ++ ex) x ai rr.length (tyOk_app (hty x hx)) (fun cs e => hz _ _ rfl cs (e ▸ hx))).mono ?_
                  rintro v S' ⟨rfl, ex2, rfl⟩
                  exact ⟨rfl, ⟨_, rfl⟩, _, by rw [List.append_assoc]⟩) _ ⟨none, rfl⟩
                refine ⟨_, _, e9, by rw [List.length_map]; omega, ?_⟩
                rw [wo_all lstOf_last]
                refine ⟨?_, _, by rw [List.append_assoc]⟩
                rw [machB_mk, decide_eq_true (show 1 ≤ ai ∧ ai ≤ 4 by omega), decide_eq_true (show 1 ≤ (rr.length : Int) ∧ (rr.length : Int) ≤ 24 by omega)]; rfl
              · rw [decide_eq_false h2]
                simp only [Bool.not_false, if_true]
                exact ⟨by rw [hfalse (by omega)], [], by rw [List.append_nil]⟩
            · rw [decide_eq_false h1]
              simp only [Bool.false_eq_true, if_false, Bool.not_false, if_true]
              exact ⟨by rw [hfalse (by omega)], [], by rw [List.append_nil]⟩
          · exact ⟨rfl, [], by rw [List.append_nil]⟩
          · exact ⟨rfl, [], by rw [List.append_nil]⟩
    · rw [decide_eq_false hl]
      simp only [Bool.not_false, if_true]
      exact ⟨by rw [machB_two hl], [], by rw [List.append_nil]⟩
  · exact ⟨rfl, [], by rw [List.append_nil]⟩
  · exact ⟨rfl, [], by rw [List.append_nil]⟩
end M
set_option Elab.async false
set_option maxHeartbeats 4000000
set_option maxRecDepth 100000
namespace M
open PySem L3 G
theorem forX_cons {g : GM} {b : SM} {x : D} {xs : List D} {l : Lo} {S : Sto} {Q : Fl → Lo → Sto → Prop} : Wr (forX g b (x :: xs) l S) Q = Wg (g x l S) fun l1 S1 => Ws b l1 S1 fun f l2 S2 => match f with
    | .nx => Wr (forX g b xs l2 S2) Q
    | .ct => Wr (forX g b xs l2 S2) Q
    | .bk => Q .nx l2 S2
    | .rt d => Q (.rt d) l2 S2 := by
  apply propext
  constructor
  · rintro ⟨f, l', S', h, q⟩
    unfold forX at h
    obtain ⟨⟨l1, S1⟩, h1, h⟩ := bnd h
    obtain ⟨⟨f2, l2, S2⟩, h2, h⟩ := bnd h
    refine ⟨l1, S1, h1, f2, l2, S2, h2, ?_⟩
    cases f2 with
    | nx => exact ⟨f, l', S', h, q⟩
    | ct => exact ⟨f, l', S', h, q⟩
    | bk => cases h; exact q
    | rt d => cases h; exact q
  · rintro ⟨l1, S1, h1, f2, l2, S2, h2, h⟩
    cases f2 with
    | nx => obtain ⟨f, l', S', h, q⟩ := h; exact ⟨f, l', S', by unfold forX; rw [h1]; show (b l1 S1).bind _ = _; rw [h2]; exact h, q⟩
    | ct => obtain ⟨f, l', S', h, q⟩ := h; exact ⟨f, l', S', by unfold forX; rw [h1]; show (b l1 S1).bind _ = _; rw [h2]; exact h, q⟩
    | bk => exact ⟨_, _, _, by unfold forX; rw [h1]; show (b l1 S1).bind _ = _; rw [h2]; rfl, h⟩
    | rt d => exact ⟨_, _, _, by unfold forX; rw [h1]; show (b l1 S1).bind _ = _; rw [h2]; rfl, h⟩
theorem forX_nil {g : GM} {b : SM} {l : Lo} {S : Sto} {Q : Fl → Lo → Sto → Prop} : Wr (forX g b [] l S) Q = Q .nx l S := by
  apply propext
  exact ⟨fun ⟨f, l', S', h, q⟩ => by cases h; exact q, fun q => ⟨_, _, _, rfl, q⟩⟩
theorem comp_filter {g : GM} {t : TM} {e : EM} {S : Sto} (p : D → Bool) (P : Lo → Prop) (xs : List D) (step : ∀ x ∈ xs, ∀ l, P l → Wg (g x l S) fun l1 S1 => S1 = S ∧ P l1 ∧ Wt t l1 S fun b S2 => b = p x ∧ S2 = S ∧ We e l1 S fun y S3 => y = x ∧ S3 = S) :
    ∀ (m i : Nat) (l : Lo), i + m = xs.length → P l → compG (itX xs) g t e (m + 1) i l S = some ((xs.drop i).filter p, S)
  | 0, i, l, hi, h => by
    have e0 : xs[i]? = none := List.getElem?_eq_none_iff.mpr (by omega)
    unfold compG itX; rw [e0, List.drop_of_length_le (by omega)]; rfl
  | m + 1, i, l, hi, h => by
    have hl : i < xs.length := by omega
    have e0 : xs[i]? = some xs[i] := List.getElem?_eq_getElem hl
    obtain ⟨l1, S1, e1, rfl, h1, b, S2, e2, rfl, rfl, y, S3, e3, rfl, rfl⟩ := step xs[i] (List.getElem_mem hl) l h
    have ih := comp_filter p P xs step m (i + 1) l1 (by omega) h1
    have : compG (itX xs) g t e (m + 1 + 1) i l S3 = ((itX xs i S3).bind fun o => match o with
      | none => some ([], S3)
      | some x => (g x l S3).bind fun p => (t p.1 p.2).bind fun q => if q.1 = true then (e p.1 q.2).bind fun r => (compG (itX xs) g t e (m + 1) (i + 1) p.1 r.2).bind fun z => some (r.1 :: z.1, z.2) else compG (itX xs) g t e (m + 1) (i + 1) p.1 q.2) := rfl
    rw [this]
    unfold itX; rw [e0]
    show (g xs[i] l S3).bind _ = _
    rw [e1]
    show (t l1 S3).bind _ = _
    rw [e2]
    rw [List.drop_eq_getElem_cons hl]
    cases hp : p xs[i] with
    | false =>
      rw [List.filter_cons_of_neg (by rw [hp]; exact Bool.false_ne_true)]
      exact ih
    | true =>
      rw [List.filter_cons_of_pos hp]
      show (e l1 S3).bind _ = _
      rw [e3]
      show (compG (itX xs) g t e (m + 1) (i + 1) l1 S3).bind _ = _
      rw [ih]; rfl
theorem wo_neNil {S : Sto} {n m : Nat} {xs : List D} {Q : D → Sto → Prop} (h1 : S[n]? = some (.lst xs)) (h2 : S[m]? = some (.lst [])) : Wo (dNeNil (.ref n) (.ref m) S) Q = Q (.bl (!xs.isEmpty)) S := by
  have : dNeNil (.ref n) (.ref m) S = some (.bl (!xs.isEmpty), S) := by unfold dNeNil; dsimp only; rw [h1, h2]
  rw [this]; exact wo_some
theorem filter_empty (p : D → Bool) (xs : List D) : (!(xs.filter fun x => !p x).isEmpty) = !(xs.all p) := by
  induction xs with
  | nil => rfl
  | cons x xs ih =>
    cases h : p x with
    | true => rw [List.filter_cons_of_neg (by simp [h]), ih, List.all_cons, h, Bool.true_and]
    | false => rw [List.filter_cons_of_pos (by simp [h]), List.all_cons, h]; rfl
theorem get_app {S T : Sto} {n : Nat} {o : Ob} (h : S[n]? = some o) : (S ++ T)[n]? = some o := by rw [List.getElem?_append_left (List.getElem?_eq_some_iff.mp h).1]; exact h
theorem due_room (S : Sto) (ai : Int) (rr : List D) (x : D) (h : tyOk S 3 x = true) (hz : ∀ cs, x = .tup cs → cs.length ≤ 100000) :
    Ws (sSeq (sIf (tOr3 (tNot3 (tE (eUn (fIsI "tuple") (eVar 1)))) (tE (eOp dNe (eCall fLen (aCons (eVar 1) (aNil))) (eOp dIx (eVar 0) (eC (.int 0)))))) (sRet (eC (.bl false))) (sNext)) (sIf (tE (eOp dNeNil (eComp (iVal (eVar 1)) [none, some 0] (gName3 0) (tNot3 (tE (eCall m_law_is_cell (aCons (eVar 0) (aCons (eCall fLen (aCons (eOp dIx (eVar 1) (eC (.int 1))) (aNil))) (aNil)))))) (eVar 0)) (eCall fLst (aNil)))) (sRet (eC (.bl false))) (sNext)))
      [some (.tup [.int ai, .tup rr]), some x] S fun f l S' => (∃ ex, S' = S ++ ex) ∧ if roomB x ai rr.length = true then f = .nx ∧ l = [some (.tup [.int ai, .tup rr]), some x] else f = .rt (.bl false) := by
  obtain ⟨T, ht⟩ := tyOk.ty h
  have sz := sizeBig
  rw [ws_seq]
  simp only [ws_if, wt_or, wt_not, wt_e, we_un, we_var, List.getElem?_cons_zero, List.getElem?_cons_succ, ex_some, wo_isI, ht, ex_some1, ex_bl]
  have no : ∀ f : Bool, roomB x ai rr.length = false → (∃ ex, S = S ++ ex) ∧ if roomB x ai rr.length = true then (Fl.rt (.bl false)) = .nx ∧ [some (D.tup [.int ai, .tup rr]), some x] = [some (.tup [.int ai, .tup rr]), some x] else Fl.rt (.bl false) = .rt (.bl false) := fun _ e => ⟨⟨[], by rw [List.append_nil]⟩, by rw [e, if_neg Bool.false_ne_true]⟩
  rcases ty_cases ht with ⟨rfl, rfl⟩ | ⟨rfl, b, rfl⟩ | ⟨rfl, i, rfl⟩ | ⟨rfl, y, rfl⟩ | ⟨rfl, xs, rfl⟩ | ⟨rfl, y, rfl⟩ | ⟨rfl, y, rfl⟩ <;> simp only [ii_NoneType_int, ii_NoneType_bool, ii_NoneType_tuple, ii_bool_int, ii_bool_bool, ii_bool_tuple, ii_int_int, ii_int_bool, ii_int_tuple, ii_str_int, ii_str_bool, ii_str_tuple, ii_tuple_int, ii_tuple_bool, ii_tuple_tuple, ii_list_int, ii_list_bool, ii_list_tuple, ii_dict_int, ii_dict_bool, ii_dict_tuple, if_true, if_false, Bool.false_eq_true, Bool.not_true, Bool.not_false, ws_ret, ws_next, we_c, we_op, we_call, wa_cons, wa_nil, we_var, List.getElem?_cons_zero, List.getElem?_cons_succ, ex_some, wo_lenT, wo_ixT, at2_0, ex_some1, wo_neI, ex_bl]
  · exact ⟨⟨[], by rw [List.append_nil]⟩, by first | trivial | (show if roomB _ _ _ = true then _ else _; rw [if_neg (by decide)])⟩
  · exact ⟨⟨[], by rw [List.append_nil]⟩, by first | trivial | (show if roomB _ _ _ = true then _ else _; rw [if_neg (by decide)])⟩
  · exact ⟨⟨[], by rw [List.append_nil]⟩, by first | trivial | (show if roomB _ _ _ = true then _ else _; rw [if_neg (by decide)])⟩
  · exact ⟨⟨[], by rw [List.append_nil]⟩, by first | trivial | (show if roomB _ _ _ = true then _ else _; rw [if_neg (by decide)])⟩
  · by_cases hl : (xs.length : Int) = ai
    · rw [decide_eq_true hl]
      simp only [Bool.not_true, Bool.false_eq_true, if_false]
      refine we_compT ?_
      simp only [we_var, List.getElem?_cons_zero, List.getElem?_cons_succ, ex_some]
      refine ⟨xs, rfl, _, S, comp_filter (S := S) (fun c => !cellB c rr.length) (fun l => ∃ x0, l = [x0, some (.tup [.int ai, .tup rr])]) xs ?_ xs.length 0 _ (by omega) ⟨none, rfl⟩, ?_, ?_⟩
      · rintro y hy l ⟨x0, rfl⟩
        simp only [wg_name, List.set_cons_zero]
        refine ⟨by first | rfl | trivial, ⟨_, rfl⟩, ?_⟩
        simp only [wt_not, wt_e, we_call, wa_cons, wa_nil, we_op, we_c, we_var, List.getElem?_cons_zero, List.getElem?_cons_succ, ex_some, wo_ixT, at2_1, ex_some1, wo_lenT]
        refine (law_cell_is S y rr.length (tyOk.tup h y hy)).mono ?_
        rintro v S' ⟨rfl, rfl⟩
        simp only [ex_bl]
        exact ⟨by first | rfl | trivial, by first | rfl | trivial, by first | exact ⟨rfl, rfl⟩ | trivial⟩
      · have := hz xs rfl
        exact Nat.le_trans (List.length_filter_le _ _) (by rw [List.length_drop]; omega)
      · simp only [wo_lst]
        refine ⟨by decide, ?_⟩
        rw [List.drop_zero, wo_neNil (get_app (get_self S _)) (get_self _ _), filter_empty]
        simp only [ex_bl]
        have e : roomB (.tup xs) ai rr.length = xs.all fun c => cellB c rr.length := by rw [roomB_tup, decide_eq_true hl, Bool.true_and]
        rw [e]
        cases xs.all fun c => cellB c rr.length with
        | true =>
          simp only [Bool.not_true, Bool.false_eq_true, if_false, if_true]
          exact ⟨⟨_, by rw [List.append_assoc]⟩, by first | rfl | trivial, by first | rfl | trivial⟩
        | false =>
          simp only [Bool.not_false, Bool.false_eq_true, if_false, if_true]
          first
            | exact ⟨⟨_, by rw [List.append_assoc]⟩, by first | rfl | trivial⟩
            | exact ⟨_, by rw [List.append_assoc]⟩
    · rw [decide_eq_false hl]
      simp only [Bool.not_false, if_true]
      refine ⟨⟨[], by rw [List.append_nil]⟩, ?_⟩
      rw [roomB_tup, decide_eq_false hl, Bool.false_and]
      first | trivial | (rw [if_neg Bool.false_ne_true])
  · exact ⟨⟨[], by rw [List.append_nil]⟩, by first | trivial | (show if roomB _ _ _ = true then _ else _; rw [if_neg (by decide)])⟩
  · exact ⟨⟨[], by rw [List.append_nil]⟩, by first | trivial | (show if roomB _ _ _ = true then _ else _; rw [if_neg (by decide)])⟩
end M
set_option Elab.async false
set_option maxHeartbeats 4000000
set_option maxRecDepth 100000
namespace M
open PySem L3 G
theorem due_loop (ai : Int) (rr : List D) : ∀ (xs : List D) (S : Sto) (x1 : Option D), (∀ x ∈ xs, tyOk S 3 x = true ∧ ∀ cs, x = .tup cs → cs.length ≤ 100000) →
    Wr (forX (gName3 1) (sSeq (sIf (tOr3 (tNot3 (tE (eUn (fIsI "tuple") (eVar 1)))) (tE (eOp dNe (eCall fLen (aCons (eVar 1) (aNil))) (eOp dIx (eVar 0) (eC (.int 0)))))) (sRet (eC (.bl false))) (sNext)) (sIf (tE (eOp dNeNil (eComp (iVal (eVar 1)) [none, some 0] (gName3 0) (tNot3 (tE (eCall m_law_is_cell (aCons (eVar 0) (aCons (eCall fLen (aCons (eOp dIx (eVar 1) (eC (.int 1))) (aNil))) (aNil)))))) (eVar 0)) (eCall fLst (aNil)))) (sRet (eC (.bl false))) (sNext))) xs
      [some (.tup [.int ai, .tup rr]), x1] S) fun f l S' => (∃ ex, S' = S ++ ex) ∧ if (xs.all fun r => roomB r ai rr.length) = true then f = .nx ∧ ∃ y1, l = [some (.tup [.int ai, .tup rr]), y1] else f = .rt (.bl false)
  | [], S, x1, _ => by
    rw [forX_nil]
    exact ⟨⟨[], by rw [List.append_nil]⟩, by rw [List.all_nil, if_pos rfl]; exact ⟨rfl, _, rfl⟩⟩
  | x :: xs, S, x1, h => by
    rw [forX_cons]
    simp only [wg_name, List.set_cons_zero, List.set_cons_succ]
    refine (due_room S ai rr x (h x List.mem_cons_self).1 (h x List.mem_cons_self).2).mono ?_
    rintro f l S' ⟨⟨ex, rfl⟩, hf⟩
    rw [List.all_cons]
    cases e : roomB x ai rr.length with
    | true =>
      rw [e, if_pos rfl] at hf
      obtain ⟨rfl, rfl⟩ := hf
      refine (due_loop ai rr xs (S ++ ex) (some x) fun y hy => ⟨tyOk_app (h y (List.mem_cons_of_mem _ hy)).1, (h y (List.mem_cons_of_mem _ hy)).2⟩).mono ?_
      rintro f l S2 ⟨⟨ex2, rfl⟩, hf⟩
      exact ⟨⟨_, by rw [List.append_assoc]⟩, by rw [Bool.true_and]; exact hf⟩
    | false =>
      rw [e, if_neg Bool.false_ne_true] at hf
      subst hf
      exact ⟨⟨_, rfl⟩, by rw [Bool.false_and, if_neg Bool.false_ne_true]⟩
theorem due_is (S : Sto) (d : D) (h : tyOk S 5 d = true) (hz : ∀ x rs, d = .tup [x, .tup rs] → ∀ cs, .tup cs ∈ rs → cs.length ≤ 100000) : Wo (m_law_due [d] S) fun v S' => v = .bl (machB d) ∧ ∃ ex, S' = S ++ ex := by
  obtain ⟨T, ht⟩ := tyOk.ty h
  have sz := sizeBig
  unfold m_law_due b_law_due
  simp only [wo_run, List.map_cons, List.map_nil, List.length_cons, List.length_nil, Nat.reduceAdd, Nat.reduceSub, List.replicate, List.cons_append, List.nil_append]
  rw [ws_seq]
  simp only [ws_if, wt_or, wt_not, wt_e, we_un, we_var, List.getElem?_cons_zero, List.getElem?_cons_succ, ex_some, wo_isI, ht, ex_some1, ex_bl]
  rcases ty_cases ht with ⟨rfl, rfl⟩ | ⟨rfl, b, rfl⟩ | ⟨rfl, i, rfl⟩ | ⟨rfl, x, rfl⟩ | ⟨rfl, xs, rfl⟩ | ⟨rfl, x, rfl⟩ | ⟨rfl, x, rfl⟩ <;> simp only [ii_NoneType_int, ii_NoneType_bool, ii_NoneType_tuple, ii_bool_int, ii_bool_bool, ii_bool_tuple, ii_int_int, ii_int_bool, ii_int_tuple, ii_str_int, ii_str_bool, ii_str_tuple, ii_tuple_int, ii_tuple_bool, ii_tuple_tuple, ii_list_int, ii_list_bool, ii_list_tuple, ii_dict_int, ii_dict_bool, ii_dict_tuple, if_true, if_false, Bool.false_eq_true, Bool.not_true, Bool.not_false, ws_ret, ws_next, we_c, we_op, we_call, wa_cons, wa_nil, we_var, List.getElem?_cons_zero, List.getElem?_cons_succ, ex_some, wo_lenT, wo_neI, ex_bl]
  · exact ⟨rfl, [], by rw [List.append_nil]⟩
  · exact ⟨rfl, [], by rw [List.append_nil]⟩
  · exact ⟨rfl, [], by rw [List.append_nil]⟩
  · exact ⟨rfl, [], by rw [List.append_nil]⟩
  · by_cases hl : (xs.length : Int) = 2
    · rw [decide_eq_true hl]
      simp only [Bool.not_true, Bool.false_eq_true, if_false]
      obtain ⟨a, rs, rfl⟩ := two_of hl
      obtain ⟨T1, ht1⟩ := tyOk.ty (tyOk.tup h a (by simp))
      obtain ⟨T2, ht2⟩ := tyOk.ty (tyOk.tup h rs (by simp))
      simp only [wo_ixT, at2_0, ex_some1]
      refine (upto_eq S a 4 ht1).mono ?_
      rintro v S2 ⟨rfl, rfl⟩
      simp only [ex_bl]
      cases eb : below a (4 + 1) with
      | false =>
        simp only [Bool.not_false, if_true, ws_ret, we_c]
        refine ⟨?_, [], by rw [List.append_nil]⟩
        have : machB (.tup [a, rs]) = false := by
          unfold machB
          split
          · rename_i a' rs' e
            cases e
            unfold below at eb
            have : ¬ (0 ≤ a' ∧ a' < 4 + 1) := of_decide_eq_false eb
            rw [decide_eq_false (by omega)]; rfl
          · rfl
        rw [this]
      | true =>
        obtain ⟨ai, rfl, a0, a1⟩ : ∃ ai : Int, a = .int ai ∧ 0 ≤ ai ∧ ai < 4 + 1 := by
          unfold below at eb
          split at eb
          · rename_i i; have := of_decide_eq_true eb; exact ⟨i, rfl, this.1, this.2⟩
          · cases eb
        simp only [Bool.not_true, Bool.false_eq_true, if_false, wo_I0, ex_bl]
        by_cases hz0 : ai < 1
        · rw [decide_eq_true hz0]
          simp only [if_true, ws_ret, we_c]
          refine ⟨?_, [], by rw [List.append_nil]⟩
          have : machB (.tup [.int ai, rs]) = false := by
            unfold machB
            split
            · rename_i a' rs' e
              cases e
              rw [decide_eq_false (by omega)]; rfl
            · rfl
          rw [this]
        · rw [decide_eq_false hz0]
          simp only [Bool.false_eq_true, if_false, ws_next]
          rw [ws_seq]
          simp only [ws_if, wt_or, wt_not, wt_e, we_un, we_op, we_c, we_var, List.getElem?_cons_zero, List.getElem?_cons_succ, ex_some, wo_ixT, at2_1, ex_some1, wo_isI, ht2, ex_bl]
          rcases ty_cases ht2 with ⟨rfl, rfl⟩ | ⟨rfl, b, rfl⟩ | ⟨rfl, i, rfl⟩ | ⟨rfl, x, rfl⟩ | ⟨rfl, rr, rfl⟩ | ⟨rfl, x, rfl⟩ | ⟨rfl, x, rfl⟩ <;> simp only [ii_NoneType_int, ii_NoneType_bool, ii_NoneType_tuple, ii_bool_int, ii_bool_bool, ii_bool_tuple, ii_int_int, ii_int_bool, ii_int_tuple, ii_str_int, ii_str_bool, ii_str_tuple, ii_tuple_int, ii_tuple_bool, ii_tuple_tuple, ii_list_int, ii_list_bool, ii_list_tuple, ii_dict_int, ii_dict_bool, ii_dict_tuple, if_true, if_false, Bool.false_eq_true, Bool.not_true, Bool.not_false, ws_ret, ws_next, we_c, we_op, we_chain, we_call, wa_cons, wa_nil, we_var, List.getElem?_cons_zero, List.getElem?_cons_succ, ex_some, wo_ixT, at2_1, ex_some1, wo_lenT, wo_I0, ex_bl]
          · exact ⟨rfl, [], by rw [List.append_nil]⟩
          · exact ⟨rfl, [], by rw [List.append_nil]⟩
          · exact ⟨rfl, [], by rw [List.append_nil]⟩
          · exact ⟨rfl, [], by rw [List.append_nil]⟩
          · have hfalse : ¬ (1 ≤ (rr.length : Int) ∧ (rr.length : Int) ≤ 24) → machB (.tup [.int ai, .tup rr]) = false := fun hn => by
              rw [machB_mk, decide_eq_false hn, Bool.and_false]; rfl
            by_cases h1 : (1 : Int) ≤ rr.length
            · rw [decide_eq_true h1]
              simp only [if_true]
              by_cases h2 : (rr.length : Int) ≤ 24
              · rw [decide_eq_true h2]
                simp only [Bool.not_true, Bool.false_eq_true, if_false]
                have hty := tyOk.tup (tyOk.tup h (.tup rr) (by simp))
                rw [ws_seq, ws_forT]
                simp only [we_op, we_c, we_var, List.getElem?_cons_zero, List.getElem?_cons_succ, ex_some, wo_ixT, at2_1, ex_some1]
                refine (due_loop ai rr rr S2 none fun x hx => ⟨hty x hx, fun cs e => hz _ _ rfl cs (e ▸ hx)⟩).mono ?_
                rintro f l S3 ⟨⟨ex, rfl⟩, hf⟩
                have em : machB (.tup [.int ai, .tup rr]) = rr.all fun r => roomB r ai rr.length := by
                  rw [machB_mk, decide_eq_true (show 1 ≤ ai ∧ ai ≤ 4 by omega), decide_eq_true (show 1 ≤ (rr.length : Int) ∧ (rr.length : Int) ≤ 24 by omega)]; rfl
                rw [em]
                cases e : rr.all fun r => roomB r ai rr.length with
                | true =>
                  rw [e, if_pos rfl] at hf
                  obtain ⟨rfl, y1, rfl⟩ := hf
                  simp only [ws_ret, we_c]
                  exact ⟨by first | rfl | trivial, _, rfl⟩
                | false =>
                  rw [e, if_neg Bool.false_ne_true] at hf
                  subst hf
                  exact ⟨by first | rfl | trivial, _, rfl⟩
              · rw [decide_eq_false h2]
                simp only [Bool.not_false, if_true]
                exact ⟨by rw [hfalse (by omega)], [], by rw [List.append_nil]⟩
            · rw [decide_eq_false h1]
              simp only [Bool.false_eq_true, if_false, Bool.not_false, if_true]
              exact ⟨by rw [hfalse (by omega)], [], by rw [List.append_nil]⟩
          · exact ⟨rfl, [], by rw [List.append_nil]⟩
          · exact ⟨rfl, [], by rw [List.append_nil]⟩
    · rw [decide_eq_false hl]
      simp only [Bool.not_false, if_true]
      exact ⟨by rw [machB_two hl], [], by rw [List.append_nil]⟩
  · exact ⟨rfl, [], by rw [List.append_nil]⟩
  · exact ⟨rfl, [], by rw [List.append_nil]⟩
def Shows (S : Sto) (d : D) : Prop := ∃ p : PyData, p.shown.length ≤ sizeLine ∧ ∀ ex, pyOf (S ++ ex) 140 d = some p ∨ pyT (S ++ ex) 140 d = some p
def Looks (d : D) : Prop := ∀ x rs, d = .tup [x, .tup rs] → ∀ cs, .tup cs ∈ rs → cs.length ≤ 100000
theorem looks_of {S : Sto} {d : D} (h : tyOk S 5 d = true) : Looks d := by
  rintro x rs rfl cs hc
  have h1 := tyOk.tup h (.tup rs) (by simp)
  exact Nat.le_trans (tyOk.len (tyOk.tup h1 _ hc)) (by decide)
theorem right_is (S : Sto) (d : D) (h : tyOk S 5 d = true) (hs : Shows S d) : Wo (m_law_right [d] S) fun v S' => v = .bl true ∧ ∃ ex, S' = S ++ ex := by
  obtain ⟨p, hp, hsh⟩ := hs
  have hz := looks_of h
  unfold m_law_right b_law_right
  simp only [wo_run, List.map_cons, List.map_nil, List.length_cons, List.length_nil, Nat.reduceAdd, Nat.reduceSub, List.replicate, List.cons_append, List.nil_append]
  refine ws_cut (fun l S1 => l = [some d, some (.str p.shown), none] ∧ S1 = S) ?_ ?_
  · simp only [wo_run, ws_seq, ws_if, wt_e, we_op, we_un, we_var, we_c, ws_asg, ws_ret, ws_drop, ws_next, ws_break, ws_cont, wg_name, wg_sub, wg_tup, wg_nil, wg_cons, we_call, we_methL, wa_cons, wa_nil, wt_and, wt_or, wt_not, we_and, we_or, we_not, we_if, wo_I0, wo_I, wo_plus, wo_ixT, wo_ixL, wo_lenT, wo_lenL, wo_abs, wo_intB, wo_tup, wo_lst, wo_tupleL, wo_eqI, wo_eqB, wo_neS, wo_is, wo_isnot, List.map_cons, List.map_nil, List.length_cons, List.length_nil, Nat.reduceAdd, Nat.reduceSub, List.replicate, List.cons_append, List.nil_append, List.getElem?_cons_zero, List.getElem?_cons_succ, List.set_cons_zero, List.set_cons_succ, ex_some, ex_some1, ex_bl, ex_int, st_0, st_1, st_w1, st_w2, at3_0, at3_1, at3_2, at2_0, at2_1, st_push, st_len, st_2, lstOf_last]
    have := hsh []
    rw [List.append_nil] at this
    rw [reprD_ok this hp]
    exact ⟨by first | rfl | trivial, by first | rfl | trivial, by first | rfl | trivial⟩
  rintro l S1 ⟨rfl, rfl⟩
  refine ws_cut (fun l S2 => l = [some d, some (.str p.shown), some (.bl (machB d))] ∧ ∃ ex, S2 = S1 ++ ex) ?_ ?_
  · simp only [wo_run, ws_seq, ws_if, wt_e, we_op, we_un, we_var, we_c, ws_asg, ws_ret, ws_drop, ws_next, ws_break, ws_cont, wg_name, wg_sub, wg_tup, wg_nil, wg_cons, we_call, we_methL, wa_cons, wa_nil, wt_and, wt_or, wt_not, we_and, we_or, we_not, we_if, wo_I0, wo_I, wo_plus, wo_ixT, wo_ixL, wo_lenT, wo_lenL, wo_abs, wo_intB, wo_tup, wo_lst, wo_tupleL, wo_eqI, wo_eqB, wo_neS, wo_is, wo_isnot, List.map_cons, List.map_nil, List.length_cons, List.length_nil, Nat.reduceAdd, Nat.reduceSub, List.replicate, List.cons_append, List.nil_append, List.getElem?_cons_zero, List.getElem?_cons_succ, List.set_cons_zero, List.set_cons_succ, ex_some, ex_some1, ex_bl, ex_int, st_0, st_1, st_w1, st_w2, at3_0, at3_1, at3_2, at2_0, at2_1, st_push, st_len, st_2, lstOf_last]
    refine (mach_is S1 d h hz).mono ?_
    rintro v S2 ⟨rfl, ex, rfl⟩
    exact ⟨by first | rfl | trivial, by first | rfl | trivial, ex, rfl⟩
  rintro l S2 ⟨rfl, ex, rfl⟩
  simp only [wo_run, ws_seq, ws_if, wt_e, we_op, we_un, we_var, we_c, ws_asg, ws_ret, ws_drop, ws_next, ws_break, ws_cont, wg_name, wg_sub, wg_tup, wg_nil, wg_cons, we_call, we_methL, wa_cons, wa_nil, wt_and, wt_or, wt_not, we_and, we_or, we_not, we_if, wo_I0, wo_I, wo_plus, wo_ixT, wo_ixL, wo_lenT, wo_lenL, wo_abs, wo_intB, wo_tup, wo_lst, wo_tupleL, wo_eqI, wo_eqB, wo_neS, wo_is, wo_isnot, List.map_cons, List.map_nil, List.length_cons, List.length_nil, Nat.reduceAdd, Nat.reduceSub, List.replicate, List.cons_append, List.nil_append, List.getElem?_cons_zero, List.getElem?_cons_succ, List.set_cons_zero, List.set_cons_succ, ex_some, ex_some1, ex_bl, ex_int, st_0, st_1, st_w1, st_w2, at3_0, at3_1, at3_2, at2_0, at2_1, st_push, st_len, st_2, lstOf_last, wo_isI]
  refine ⟨"bool", rfl, ?_⟩
  simp only [ii_bool_bool, if_true]
  refine (due_is (S1 ++ ex) d (tyOk_app h) hz).mono ?_
  rintro v S3 ⟨rfl, ex2, rfl⟩
  simp only [wo_eqB, decide_true, ex_bl, if_true]
  have := hsh (ex ++ ex2)
  rw [← List.append_assoc] at this
  rw [reprD_ok this hp]
  simp only [wo_eqS, decide_true]
  exact ⟨by first | rfl | trivial, _, by rw [List.append_assoc]⟩
end M
set_option Elab.async false
set_option maxHeartbeats 4000000
set_option maxRecDepth 100000
namespace M
open PySem L3 G
mutual
theorem pyOf_up (S : Sto) : ∀ (k : Nat) (d : D) (p : PyData), pyOf S k d = some p → pyOf S (k + 1) d = some p
  | 0, d, p, h => by unfold pyOf at h; cases h
  | k + 1, .non, p, h => by unfold pyOf at h ⊢; exact h
  | k + 1, .bl b, p, h => by unfold pyOf at h ⊢; exact h
  | k + 1, .int i, p, h => by unfold pyOf at h ⊢; exact h
  | k + 1, .str x, p, h => by unfold pyOf at h ⊢; exact h
  | k + 1, .fn a, p, h => by unfold pyOf at h; cases h
  | k + 1, .tup xs, p, h => by
    unfold pyOf at h ⊢
    obtain ⟨ds, h1, h⟩ := bnd h
    rw [pyAll_up S k xs ds h1]; exact h
  | k + 1, .ref n, p, h => by
    unfold pyOf at h ⊢
    obtain ⟨xs, h0, h⟩ := bnd h
    obtain ⟨ds, h1, h⟩ := bnd h
    rw [h0]
    show ((pyAll S (k + 1) xs).bind _) = _
    rw [pyAll_up S k xs ds h1]; exact h
termination_by k => (k, 0)
theorem pyAll_up (S : Sto) : ∀ (k : Nat) (xs : List D) (p : List PyData), pyAll S k xs = some p → pyAll S (k + 1) xs = some p
  | k, [], p, h => by unfold pyAll at h ⊢; exact h
  | k, x :: xs, p, h => by
    unfold pyAll at h ⊢
    obtain ⟨d, h1, h⟩ := bnd h
    obtain ⟨ds, h2, h⟩ := bnd h
    rw [pyOf_up S k x d h1]
    show ((pyAll S (k + 1) xs).bind _) = _
    rw [pyAll_up S k xs ds h2]; exact h
termination_by k xs => (k, xs.length + 1)
end
mutual
theorem pyT_up (S : Sto) : ∀ (k : Nat) (d : D) (p : PyData), pyT S k d = some p → pyT S (k + 1) d = some p
  | 0, d, p, h => by unfold pyT at h; cases h
  | k + 1, .non, p, h => by unfold pyT at h ⊢; exact h
  | k + 1, .bl b, p, h => by unfold pyT at h ⊢; exact h
  | k + 1, .int i, p, h => by unfold pyT at h ⊢; exact h
  | k + 1, .str x, p, h => by unfold pyT at h ⊢; exact h
  | k + 1, .fn a, p, h => by unfold pyT at h; cases h
  | k + 1, .tup xs, p, h => by
    unfold pyT at h ⊢
    obtain ⟨ds, h1, h⟩ := bnd h
    rw [pyTs_up S k xs ds h1]; exact h
  | k + 1, .ref n, p, h => by
    unfold pyT at h ⊢
    split at h
    · exact h
    · rename_i i d0 e
      by_cases hi : i.natAbs.log2 < 1920
      · rw [if_pos hi] at h ⊢
        obtain ⟨q, h1, h⟩ := bnd h
        rw [pyT_up S k d0 q h1]; exact h
      · rw [if_neg hi] at h; cases h
    · cases h
termination_by k => (k, 0)
theorem pyTs_up (S : Sto) : ∀ (k : Nat) (xs : List D) (p : List PyData), pyTs S k xs = some p → pyTs S (k + 1) xs = some p
  | k, [], p, h => by unfold pyTs at h ⊢; exact h
  | k, x :: xs, p, h => by
    unfold pyTs at h ⊢
    obtain ⟨d, h1, h⟩ := bnd h
    obtain ⟨ds, h2, h⟩ := bnd h
    rw [pyT_up S k x d h1]
    show ((pyTs S (k + 1) xs).bind _) = _
    rw [pyTs_up S k xs ds h2]; exact h
termination_by k xs => (k, xs.length + 1)
end
theorem pyOf_to {S : Sto} {k : Nat} {d : D} {p : PyData} (h : pyOf S k d = some p) : ∀ j, pyOf S (k + j) d = some p
  | 0 => h
  | j + 1 => pyOf_up S (k + j) d p (pyOf_to h j)
theorem pyT_to {S : Sto} {k : Nat} {d : D} {p : PyData} (h : pyT S k d = some p) : ∀ j, pyT S (k + j) d = some p
  | 0 => h
  | j + 1 => pyT_up S (k + j) d p (pyT_to h j)
theorem tyOk_down {S : Sto} : ∀ {k : Nat} {d : D}, tyOk S (k + 1) d = true → tyOk S k d = true
  | 0, d, _ => by unfold tyOk; rfl
  | k + 1, d, h => by
    cases d with
    | tup xs => exact tyOk.mk (fun x hx => tyOk_down (tyOk.tup h x hx)) (tyOk.len h)
    | _ => unfold tyOk at h ⊢; exact h
def OfR (R : Sto) (k B : Nat) (d : D) : Prop := ∃ p : PyData, p.shown.length ≤ B ∧ (∀ ns a r ex, pyOf (St ns a r (R ++ ex)) k d = some p) ∧ ∀ ns a r ex, tyOk (St ns a r (R ++ ex)) 5 d = true
def TR (R : Sto) (k B : Nat) (d : D) : Prop := ∃ p : PyData, p.shown.length ≤ B ∧ (∀ ns a r ex, pyT (St ns a r (R ++ ex)) k d = some p) ∧ ∀ ns a r ex, tyOk (St ns a r (R ++ ex)) 5 d = true
def OkR (R : Sto) (k B : Nat) (d : D) : Prop := OfR R k B d ∨ TR R k B d
def Pl (k B : Nat) (d : D) : Prop := ∃ p : PyData, p.shown.length ≤ B ∧ (∀ S, pyOf S k d = some p) ∧ (∀ S, pyT S k d = some p) ∧ ∀ S, tyOk S 5 d = true
section
variable {R : Sto} {k k' B B' : Nat} {d : D} {xs : List D}
theorem Pl.of (h : Pl k B d) : OfR R k B d := let ⟨p, h1, h2, _, h4⟩ := h; ⟨p, h1, fun _ _ _ _ => h2 _, fun _ _ _ _ => h4 _⟩
theorem Pl.tr (h : Pl k B d) : TR R k B d := let ⟨p, h1, _, h3, h4⟩ := h; ⟨p, h1, fun _ _ _ _ => h3 _, fun _ _ _ _ => h4 _⟩
theorem Pl.mono (h : Pl k B d) (hk : k ≤ k') (hB : B ≤ B') : Pl k' B' d := by
  obtain ⟨p, h1, h2, h3, h4⟩ := h
  obtain ⟨j, rfl⟩ := Nat.exists_eq_add_of_le hk
  exact ⟨p, by omega, fun S => pyOf_to (h2 S) j, fun S => pyT_to (h3 S) j, h4⟩
theorem OfR.mono (h : OfR R k B d) (hk : k ≤ k') (hB : B ≤ B') : OfR R k' B' d := by
  obtain ⟨p, h1, h2, h4⟩ := h
  obtain ⟨j, rfl⟩ := Nat.exists_eq_add_of_le hk
  exact ⟨p, by omega, fun ns a r ex => pyOf_to (h2 ns a r ex) j, h4⟩
theorem TR.mono (h : TR R k B d) (hk : k ≤ k') (hB : B ≤ B') : TR R k' B' d := by
  obtain ⟨p, h1, h2, h4⟩ := h
  obtain ⟨j, rfl⟩ := Nat.exists_eq_add_of_le hk
  exact ⟨p, by omega, fun ns a r ex => pyT_to (h2 ns a r ex) j, h4⟩
theorem OkR.mono (h : OkR R k B d) (hk : k ≤ k') (hB : B ≤ B') : OkR R k' B' d := h.elim (fun x => .inl (x.mono hk hB)) (fun x => .inr (x.mono hk hB))
theorem OfR.app {T : Sto} (h : OfR R k B d) : OfR (R ++ T) k B d := let ⟨p, h1, h2, h4⟩ := h; ⟨p, h1, fun ns a r ex => by rw [List.append_assoc]; exact h2 ns a r _, fun ns a r ex => by rw [List.append_assoc]; exact h4 ns a r _⟩
theorem TR.app {T : Sto} (h : TR R k B d) : TR (R ++ T) k B d := let ⟨p, h1, h2, h4⟩ := h; ⟨p, h1, fun ns a r ex => by rw [List.append_assoc]; exact h2 ns a r _, fun ns a r ex => by rw [List.append_assoc]; exact h4 ns a r _⟩
theorem OkR.app {T : Sto} (h : OkR R k B d) : OkR (R ++ T) k B d := h.elim (fun x => .inl x.app) (fun x => .inr x.app)
theorem sum_le (B : Nat) : ∀ ts : List Str, (∀ t ∈ ts, t.length ≤ B) → (ts.map (·.length)).sum ≤ B * ts.length
  | [], _ => Nat.zero_le _
  | t :: ts, h => by
    have h1 := h t List.mem_cons_self
    have h2 := sum_le B ts fun x hx => h x (List.mem_cons_of_mem _ hx)
    simp only [List.map_cons, List.sum_cons, List.length_cons]
    rw [Nat.mul_add]; omega
theorem shownAll_map (xs : List PyData) : PyData.shownAll xs = xs.map PyData.shown := by
  induction xs with
  | nil => rfl
  | cons x xs ih => unfold PyData.shownAll; rw [ih]; rfl
theorem lst_len (B : Nat) (xs : List PyData) (h : ∀ x ∈ xs, x.shown.length ≤ B) : (PyData.list xs).shown.length ≤ (B + 2) * xs.length + 3 := by
  show (listText (PyData.shownAll xs)).length ≤ _
  rw [shownAll_map]
  have h1 := listText_len_le (xs.map PyData.shown)
  have h2 := sum_le B (xs.map PyData.shown) fun t ht => by
    obtain ⟨p, hp, rfl⟩ := List.mem_map.mp ht
    exact h p hp
  simp only [List.length_map] at h1 h2
  rw [Nat.add_mul]
  omega
theorem tup_len (B : Nat) (xs : List PyData) (h : ∀ x ∈ xs, x.shown.length ≤ B) : (PyData.tuple xs).shown.length ≤ (B + 2) * xs.length + 3 := by
  show (tupleText (PyData.shownAll xs)).length ≤ _
  rw [shownAll_map]
  have h1 := tupleText_len_le (xs.map PyData.shown)
  have h2 := sum_le B (xs.map PyData.shown) fun t ht => by
    obtain ⟨p, hp, rfl⟩ := List.mem_map.mp ht
    exact h p hp
  simp only [List.length_map] at h1 h2
  rw [Nat.add_mul]
  omega
theorem pys_of {α : Type} {E : α → Sto} {B : Nat} : ∀ {xs : List D}, (∀ x ∈ xs, ∃ p : PyData, p.shown.length ≤ B ∧ ∀ a, pyOf (E a) k x = some p) → ∃ ps : List PyData, ps.length = xs.length ∧ (∀ p ∈ ps, p.shown.length ≤ B) ∧ ∀ a, pyAll (E a) k xs = some ps
  | [], _ => ⟨[], rfl, (by intro p hp; cases hp), fun a => by unfold pyAll; rfl⟩
  | x :: xs, h => by
    obtain ⟨p, h1, h2⟩ := h x List.mem_cons_self
    obtain ⟨ps, h3, h4, h5⟩ := pys_of (E := E) (B := B) (xs := xs) fun y hy => h y (List.mem_cons_of_mem _ hy)
    refine ⟨p :: ps, by rw [List.length_cons, h3, List.length_cons], fun q hq => ?_, fun a => ?_⟩
    · rcases List.mem_cons.mp hq with rfl | hq
      · exact h1
      · exact h4 q hq
    · unfold pyAll
      rw [h2 a]
      show ((pyAll (E a) k xs).bind _) = _
      rw [h5 a]; rfl
theorem pyts_of {α : Type} {E : α → Sto} {B : Nat} : ∀ {xs : List D}, (∀ x ∈ xs, ∃ p : PyData, p.shown.length ≤ B ∧ ∀ a, pyT (E a) k x = some p) → ∃ ps : List PyData, ps.length = xs.length ∧ (∀ p ∈ ps, p.shown.length ≤ B) ∧ ∀ a, pyTs (E a) k xs = some ps
  | [], _ => ⟨[], rfl, (by intro p hp; cases hp), fun a => by unfold pyTs; rfl⟩
  | x :: xs, h => by
    obtain ⟨p, h1, h2⟩ := h x List.mem_cons_self
    obtain ⟨ps, h3, h4, h5⟩ := pyts_of (E := E) (B := B) (xs := xs) fun y hy => h y (List.mem_cons_of_mem _ hy)
    refine ⟨p :: ps, by rw [List.length_cons, h3, List.length_cons], fun q hq => ?_, fun a => ?_⟩
    · rcases List.mem_cons.mp hq with rfl | hq
      · exact h1
      · exact h4 q hq
    · unfold pyTs
      rw [h2 a]
      show ((pyTs (E a) k xs).bind _) = _
      rw [h5 a]; rfl
abbrev Ev := List Int × Int × Int × Sto
def stE (R : Sto) (e : Ev) : Sto := St e.1 e.2.1 e.2.2.1 (R ++ e.2.2.2)
theorem OfR.tup (h : ∀ x ∈ xs, OfR R k B x) (hl : xs.length ≤ 1000) : OfR R (k + 1) ((B + 2) * xs.length + 3) (.tup xs) := by
  obtain ⟨ps, h1, h2, h3⟩ := pys_of (E := stE R) (k := k) (B := B) (xs := xs) fun x hx => let ⟨p, q1, q2, _⟩ := h x hx; ⟨p, q1, fun e => q2 e.1 e.2.1 e.2.2.1 e.2.2.2⟩
  refine ⟨.tuple ps, by have := tup_len B ps h2; rw [h1] at this; exact this, fun ns a r ex => ?_, fun ns a r ex => tyOk.mk (fun x hx => ?_) hl⟩
  · have := h3 (ns, a, r, ex)
    unfold pyOf
    show ((pyAll (stE R (ns, a, r, ex)) k xs).bind _) = _
    rw [this]; rfl
  · obtain ⟨_, _, _, q⟩ := h x hx
    exact tyOk_down (q ns a r ex)
theorem TR.tup (h : ∀ x ∈ xs, TR R k B x) (hl : xs.length ≤ 1000) : TR R (k + 1) ((B + 2) * xs.length + 3) (.tup xs) := by
  obtain ⟨ps, h1, h2, h3⟩ := pyts_of (E := stE R) (k := k) (B := B) (xs := xs) fun x hx => let ⟨p, q1, q2, _⟩ := h x hx; ⟨p, q1, fun e => q2 e.1 e.2.1 e.2.2.1 e.2.2.2⟩
  refine ⟨.tuple ps, by have := tup_len B ps h2; rw [h1] at this; exact this, fun ns a r ex => ?_, fun ns a r ex => tyOk.mk (fun x hx => ?_) hl⟩
  · have := h3 (ns, a, r, ex)
    unfold pyT
    show ((pyTs (stE R (ns, a, r, ex)) k xs).bind _) = _
    rw [this]; rfl
  · obtain ⟨_, _, _, q⟩ := h x hx
    exact tyOk_down (q ns a r ex)
theorem Pl.tup (h : ∀ x ∈ xs, Pl k B x) (hl : xs.length ≤ 1000) : Pl (k + 1) ((B + 2) * xs.length + 3) (.tup xs) := by
  obtain ⟨ps, h1, h2, h3⟩ := pys_of (E := fun S : Sto => S) (k := k) (B := B) (xs := xs) fun x hx => let ⟨p, q1, q2, _⟩ := h x hx; ⟨p, q1, q2⟩
  obtain ⟨qs, g1, g2, g3⟩ := pyts_of (E := fun S : Sto => S) (k := k) (B := B) (xs := xs) fun x hx => let ⟨p, q1, _, q2, _⟩ := h x hx; ⟨p, q1, q2⟩
  have e : qs = ps := py_agrees [] k xs qs ps (g3 []) (h3 [])
  subst e
  refine ⟨.tuple qs, by have := tup_len B qs h2; rw [h1] at this; exact this, fun S => ?_, fun S => ?_, fun S => tyOk.mk (fun x hx => ?_) hl⟩
  · unfold pyOf; rw [h3 S]; rfl
  · unfold pyT; rw [g3 S]; rfl
  · obtain ⟨_, _, _, _, q⟩ := h x hx
    exact tyOk_down (q S)
theorem OfR.lst {j : Nat} (hj : R[j]? = some (.lst xs)) (h : ∀ x ∈ xs, OfR R k B x) : OfR R (k + 1) ((B + 2) * xs.length + 3) (.ref (j + 2)) := by
  obtain ⟨ps, h1, h2, h3⟩ := pys_of (E := stE R) (k := k) (B := B) (xs := xs) fun x hx => let ⟨p, q1, q2, _⟩ := h x hx; ⟨p, q1, fun e => q2 e.1 e.2.1 e.2.2.1 e.2.2.2⟩
  have hg : ∀ ns a r ex, (St ns a r (R ++ ex))[j + 2]? = some (.lst xs) := fun ns a r ex => by rw [st_get]; exact get_app hj
  refine ⟨.list ps, by have := lst_len B ps h2; rw [h1] at this; exact this, fun ns a r ex => ?_, fun ns a r ex => ?_⟩
  · have := h3 (ns, a, r, ex)
    unfold pyOf lstOf
    rw [hg]
    show ((pyAll (stE R (ns, a, r, ex)) k xs).bind _) = _
    rw [this]; rfl
  · unfold tyOk tyD; dsimp only; rw [hg]; rfl
theorem TR.dict0 {j : Nat} (hj : R[j]? = some (.dct [])) : TR R 1 10 (.ref (j + 2)) := by
  have hg : ∀ ns a r ex, (St ns a r (R ++ ex))[j + 2]? = some (.dct []) := fun ns a r ex => by rw [st_get]; exact get_app hj
  refine ⟨.dict [], by decide +kernel, fun ns a r ex => ?_, fun ns a r ex => ?_⟩
  · unfold pyT; rw [hg]
  · unfold tyOk tyD; dsimp only; rw [hg]; rfl
theorem TR.dict1 {j : Nat} (hj : R[j]? = some (.dct [(Sum.inl 0, d)])) (h : TR R k B d) : TR R (k + 1) (B + 20) (.ref (j + 2)) := by
  obtain ⟨p, h1, h2, _⟩ := h
  have hg : ∀ ns a r ex, (St ns a r (R ++ ex))[j + 2]? = some (.dct [(Sum.inl 0, d)]) := fun ns a r ex => by rw [st_get]; exact get_app hj
  refine ⟨.dict [(.int 0, p)], ?_, fun ns a r ex => ?_, fun ns a r ex => ?_⟩
  · show (dictText (PyData.shownKv [(.int 0, p)])).length ≤ _
    have e1 := dictText_len_le (PyData.shownKv [(.int 0, p)])
    have e2 : (PyData.shownKv [(.int 0, p)]) = [(PyData.int 0).shown ++ ": " ++ p.shown] := by unfold PyData.shownKv PyData.shownKv; rfl
    rw [e2] at e1 ⊢
    have e3 : ((PyData.int 0).shown ++ ": " ++ p.shown).length = (PyData.int 0).shown.length + 2 + p.shown.length := by rw [strLen_append, strLen_append]; rfl
    have e4 : (PyData.int 0).shown.length = 1 := by decide +kernel
    simp only [List.map_cons, List.map_nil, List.sum_cons, List.sum_nil, List.length_cons, List.length_nil] at e1
    omega
  · unfold pyT; rw [hg]
    dsimp only
    rw [if_pos (by decide), h2]; rfl
  · unfold tyOk tyD; dsimp only; rw [hg]; rfl
theorem Pl.non : Pl 1 10 .non := ⟨.none, by decide +kernel, fun S => by unfold pyOf; rfl, fun S => by unfold pyT; rfl, fun S => rfl⟩
theorem Pl.bl (b : Bool) : Pl 1 10 (.bl b) := ⟨.bool b, by cases b <;> decide +kernel, fun S => by unfold pyOf; rfl, fun S => by unfold pyT; rfl, fun S => rfl⟩
theorem Pl.str (x : Str) (h : (PyData.str x).shown.length ≤ B) : Pl 1 B (.str x) := ⟨.str x, h, fun S => by unfold pyOf; rfl, fun S => by unfold pyT; rfl, fun S => rfl⟩
theorem Pl.int (i : Int) (h : (PyData.int i).shown.length ≤ B) (hl : i.natAbs.log2 < 1920) : Pl 1 B (.int i) := ⟨.int i, h, fun S => by unfold pyOf; rw [if_pos hl], fun S => by unfold pyT; rw [if_pos hl], fun S => rfl⟩
end
end M
set_option Elab.async false
set_option maxHeartbeats 4000000
set_option maxRecDepth 100000
namespace M
open PySem L3 G
theorem pn_apps {ns : List Int} {rest ex : Sto} {k : Int} {S : Sto} (h : Pn ns rest k S) : Pn ns rest k (S ++ ex) := by
  obtain ⟨a, r, e, rfl, h1, h2, h3⟩ := h
  refine ⟨a, r, e ++ ex, ?_, h1, h2, h3⟩
  unfold St
  simp
theorem pn_getG {ns : List Int} {rest : Sto} {o : Ob} {k : Int} {S : Sto} {j : Nat} (h : Pn ns rest k S) (hj : rest[j]? = some o) : S[j + 2]? = some o := by
  obtain ⟨a, r, ex, rfl, _⟩ := h
  rw [st_get, List.getElem?_append_left (List.getElem?_eq_some_iff.mp hj).1]
  exact hj
theorem pn_lstG {ns : List Int} {rest : Sto} {xs : List D} {k : Int} {S : Sto} {j : Nat} (h : Pn ns rest k S) (hj : rest[j]? = some (.lst xs)) : lstOf S (j + 2) = some xs := by
  unfold lstOf; rw [pn_getG h hj]
theorem wo_plusL {S : Sto} {n m : Nat} {xs ys : List D} {Q : D → Sto → Prop} (h1 : S[n]? = some (.lst xs)) (h2 : S[m]? = some (.lst ys)) (hz : xs.length + ys.length ≤ sizeLine) : Wo (dPlus (.ref n) (.ref m) S) Q = Q (.ref S.length) (S ++ [.lst (xs ++ ys)]) := by
  have : dPlus (.ref n) (.ref m) S = some (.ref S.length, S ++ [.lst (xs ++ ys)]) := by unfold dPlus; dsimp only; rw [h1, h2]; dsimp only; rw [if_pos hz]
  rw [this]; exact wo_some
theorem pn_more {ns : List Int} {R : Sto} {k : Int} {T : Sto} (h : Pn ns R k T) : ∃ ex, T.length = (R ++ ex).length + 2 ∧ ∀ more, Pn ns (R ++ ex ++ more) k (T ++ more) := by
  obtain ⟨a, r, ex, rfl, h1, h2, h3⟩ := h
  refine ⟨ex, st_len, fun more => ⟨a, r, [], ?_, h1, h2, h3⟩⟩
  rw [List.append_nil]
  unfold St
  simp
theorem we_slS {a b : EM} {l : Lo} : We (eSl a (oSome b) oNone) l S Q = We a l S fun x S1 => We b l S1 fun y S2 => ∃ xs, x = .tup xs ∧ ∃ j, y = .int j ∧ Q (.tup (cutD xs (some j) none)) S2 := by
  apply propext
  constructor
  · rintro ⟨v, S', h, q⟩
    obtain ⟨⟨x, S1⟩, h1, h⟩ := bnd h
    obtain ⟨⟨o, S2⟩, h2, h⟩ := bnd h
    obtain ⟨⟨o2, S3⟩, h3, h⟩ := bnd h
    cases h3
    obtain ⟨⟨y, S4⟩, h4, h2⟩ := bnd h2
    refine ⟨x, _, h1, y, S4, h4, ?_⟩
    cases x with
    | tup xs =>
      cases y with
      | int j => cases h2; cases h; exact ⟨xs, rfl, j, rfl, q⟩
      | _ => cases h2
    | _ => cases h
  · rintro ⟨x, S1, h1, y, S2, h2, xs, rfl, j, rfl, q⟩
    refine ⟨_, _, ?_, q⟩
    unfold eSl
    rw [h1]
    show (oSome b l S1).bind _ = _
    have : oSome b l S1 = some (some j, S2) := by unfold oSome; rw [h2]; rfl
    rw [this]; rfl
theorem we_slN {a b : EM} {l : Lo} : We (eSl a oNone (oSome b)) l S Q = We a l S fun x S1 => We b l S1 fun y S2 => ∃ xs, x = .tup xs ∧ ∃ j, y = .int j ∧ Q (.tup (cutD xs none (some j))) S2 := by
  apply propext
  constructor
  · rintro ⟨v, S', h, q⟩
    obtain ⟨⟨x, S1⟩, h1, h⟩ := bnd h
    obtain ⟨⟨o, S2⟩, h2, h⟩ := bnd h
    cases h2
    obtain ⟨⟨o2, S3⟩, h3, h⟩ := bnd h
    obtain ⟨⟨y, S4⟩, h4, h3⟩ := bnd h3
    refine ⟨x, _, h1, y, S4, h4, ?_⟩
    cases x with
    | tup xs =>
      cases y with
      | int j => cases h3; cases h; exact ⟨xs, rfl, j, rfl, q⟩
      | _ => cases h3
    | _ => cases h
  · rintro ⟨x, S1, h1, y, S2, h2, xs, rfl, j, rfl, q⟩
    refine ⟨_, _, ?_, q⟩
    unfold eSl
    rw [h1]
    show (oSome b l S1).bind _ = _
    have : oSome b l S1 = some (some j, S2) := by unfold oSome; rw [h2]; rfl
    rw [this]; rfl
theorem ex_tup {xs : List D} {p : List D → Prop} : (∃ k, D.tup xs = D.tup k ∧ p k) = p xs := by
  apply propext; constructor
  · rintro ⟨d, h, q⟩; cases h; exact q
  · exact fun q => ⟨xs, rfl, q⟩
theorem ex_int1 {b : Int} {p : Int → Prop} : (∃ k, D.int b = D.int k ∧ p k) = p b := by
  apply propext; constructor
  · rintro ⟨d, h, q⟩; cases h; exact q
  · exact fun q => ⟨b, rfl, q⟩
theorem cut_len (xs : List D) (lo hi : Option Int) : (cutD xs lo hi).length ≤ xs.length := by
  unfold cutD; rw [List.length_take, List.length_drop]; omega
theorem cut_mem {xs : List D} {lo hi : Option Int} {x : D} (h : x ∈ cutD xs lo hi) : x ∈ xs := List.mem_of_mem_drop (List.mem_of_mem_take h)
theorem wo_plusT {S : Sto} {Q : D → Sto → Prop} {xs ys : List D} : Wo (dPlus (.tup xs) (.tup ys) S) Q = (xs.length + ys.length ≤ sizeLine ∧ Q (.tup (xs ++ ys)) S) := wo_ite
structure Kp (ns : List Int) (rest : Sto) (k : Int) (S : Sto) (R : Sto) : Prop where
  pn : Pn ns R k S
  ex : ∃ e, R = rest ++ e
section
variable {ns : List Int} {rest R : Sto} {k k' : Int} {S : Sto} {o : Ob} {j i : Nat}
theorem Kp.of (h : Pn ns rest k S) : Kp ns rest k S rest := ⟨h, [], by rw [List.append_nil]⟩
theorem Kp.out (h : Kp ns rest k S R) : Pn ns rest k S := by
  obtain ⟨p, e, rfl⟩ := h
  exact p.start
theorem Kp.mono (h : Kp ns rest k S R) (hk : k ≤ k') : Kp ns rest k' S R := ⟨h.pn.mono hk, h.ex⟩
theorem Kp.apps {ex : Sto} (h : Kp ns rest k S R) : Kp ns rest k (S ++ ex) R := ⟨pn_apps h.pn, h.ex⟩
theorem Kp.more (h : Kp ns rest k S R) : ∃ ex, S.length = (R ++ ex).length + 2 ∧ ∀ more, Kp ns rest k (S ++ more) (R ++ ex ++ more) := by
  obtain ⟨ex, h1, h2⟩ := pn_more h.pn
  refine ⟨ex, h1, fun more => ⟨h2 more, ?_⟩⟩
  obtain ⟨e, rfl⟩ := h.ex
  exact ⟨e ++ ex ++ more, by simp⟩
end
theorem get_more {T more : Sto} {i : Nat} : (T ++ more)[T.length + i]? = more[i]? := by
  rw [List.getElem?_append_right (by omega)]; congr 1; omega
theorem small_len (i : Int) (h0 : -2 ≤ i) (h1 : i ≤ 30) : (PyData.int i).shown.length ≤ 10 ∧ i.natAbs.log2 < 1920 := by
  have : i = -2 ∨ i = -1 ∨ i = 0 ∨ i = 1 ∨ i = 2 ∨ i = 3 ∨ i = 4 ∨ i = 5 ∨ i = 6 ∨ i = 7 ∨ i = 8 ∨ i = 9 ∨ i = 10 ∨ i = 11 ∨ i = 12 ∨ i = 13 ∨ i = 14 ∨ i = 15 ∨ i = 16 ∨ i = 17 ∨ i = 18 ∨ i = 19 ∨ i = 20 ∨ i = 21 ∨ i = 22 ∨ i = 23 ∨ i = 24 ∨ i = 25 ∨ i = 26 ∨ i = 27 ∨ i = 28 ∨ i = 29 ∨ i = 30 := by omega
  rcases this with rfl | rfl | rfl | rfl | rfl | rfl | rfl | rfl | rfl | rfl | rfl | rfl | rfl | rfl | rfl | rfl | rfl | rfl | rfl | rfl | rfl | rfl | rfl | rfl | rfl | rfl | rfl | rfl | rfl | rfl | rfl | rfl | rfl <;> exact ⟨by decide +kernel, by decide +kernel⟩
theorem Pl.small (i : Int) (h0 : -2 ≤ i) (h1 : i ≤ 30) : Pl 1 10 (.int i) := Pl.int i (small_len i h0 h1).1 (small_len i h0 h1).2
theorem pick3d (i : Int) (h0 : 0 ≤ i) (h1 : i < 3) : ∃ x : Int, L2.atI [D.int 3, D.int 30, D.int 110] i = some (.int x) ∧ 0 ≤ x ∧ x ≤ 110 := by
  have : i = 0 ∨ i = 1 ∨ i = 2 := by omega
  rcases this with rfl | rfl | rfl <;> exact ⟨_, rfl, by decide, by decide⟩
theorem deep_ok (ns : List Int) (rest R0 : Sto) (S : Sto) (k : Int) (h : Kp ns rest k S R0) (hk : 0 ≤ k) (hk2 : k < 700000000) :
    Wo (m_law_deep [.ref 1] S) fun v S' => ∃ R T, R = R0 ++ T ∧ Kp ns rest (k + 120) S' R ∧ OfR R 120 1000 v := by
  have sz := sizeBig
  unfold m_law_deep b_law_deep
  simp only [wo_run, List.map_cons, List.map_nil, List.length_cons, List.length_nil, Nat.reduceAdd, Nat.reduceSub, List.replicate, List.cons_append, List.nil_append]
  refine ws_cut (fun l S1 => l = [some (.ref 1), some .non, none] ∧ S1 = S) (by simp only [wo_run, ws_seq, ws_if, wt_e, we_op, we_un, we_var, we_c, ws_asg, ws_ret, ws_drop, ws_next, ws_break, ws_cont, wg_name, wg_sub, wg_tup, wg_nil, wg_cons, we_call, we_methL, wa_cons, wa_nil, wt_and, wt_or, wt_not, we_and, we_or, we_not, we_if, wo_I0, wo_I, wo_plus, wo_ixT, wo_ixL, wo_lenT, wo_lenL, wo_abs, wo_intB, wo_tup, wo_lst, wo_tupleL, wo_eqI, wo_eqB, wo_neS, wo_is, wo_isnot, List.map_cons, List.map_nil, List.length_cons, List.length_nil, Nat.reduceAdd, Nat.reduceSub, List.replicate, List.cons_append, List.nil_append, List.getElem?_cons_zero, List.getElem?_cons_succ, List.set_cons_zero, List.set_cons_succ, ex_some, ex_some1, ex_bl, ex_int, st_0, st_1, st_w1, st_w2, at3_0, at3_1, at3_2, at2_0, at2_1, st_push, st_len, st_2, lstOf_last, and_self]) ?_
  rintro l S1 ⟨rfl, rfl⟩
  refine ws_cut (fun l S1 => ∃ v x2, l = [some (.ref 1), some v, x2] ∧ ∃ R T, R = R0 ++ T ∧ Kp ns rest (k + 120) S1 R ∧ OfR R 120 1000 v) ?_ ?_
  · rw [ws_forR]
    simp only [wo_run, ws_seq, ws_if, wt_e, we_op, we_un, we_var, we_c, ws_asg, ws_ret, ws_drop, ws_next, ws_break, ws_cont, wg_name, wg_sub, wg_tup, wg_nil, wg_cons, we_call, we_methL, wa_cons, wa_nil, wt_and, wt_or, wt_not, we_and, we_or, we_not, we_if, wo_I0, wo_I, wo_plus, wo_ixT, wo_ixL, wo_lenT, wo_lenL, wo_abs, wo_intB, wo_tup, wo_lst, wo_tupleL, wo_eqI, wo_eqB, wo_neS, wo_is, wo_isnot, List.map_cons, List.map_nil, List.length_cons, List.length_nil, Nat.reduceAdd, Nat.reduceSub, List.replicate, List.cons_append, List.nil_append, List.getElem?_cons_zero, List.getElem?_cons_succ, List.set_cons_zero, List.set_cons_succ, ex_some, ex_some1, ex_bl, ex_int, st_0, st_1, st_w1, st_w2, at3_0, at3_1, at3_2, at2_0, at2_1, st_push, st_len, st_2, lstOf_last]
    refine ⟨by decide, ?_⟩
    obtain ⟨ex, hlen, hmore⟩ := h.more
    have h1 := hmore [.lst [.int 3, .int 30, .int 110]]
    refine (take_pn ns _ _ k 3 h1.pn (by omega) (by decide) (by decide)).mono ?_
    rintro v S2 ⟨⟨d, rfl, q1, q2⟩, p⟩
    obtain ⟨x, hx, hx1, hx2⟩ := pick3d d q1 q2
    have hl : lstOf S2 S1.length = some [D.int 3, D.int 30, D.int 110] := by
      rw [hlen]; exact pn_lstG p (by rw [show (R0 ++ ex).length = (R0 ++ ex).length + 0 by rfl, get_more]; rfl)
    simp only [wo_run, ws_seq, ws_if, wt_e, we_op, we_un, we_var, we_c, ws_asg, ws_ret, ws_drop, ws_next, ws_break, ws_cont, wg_name, wg_sub, wg_tup, wg_nil, wg_cons, we_call, we_methL, wa_cons, wa_nil, wt_and, wt_or, wt_not, we_and, we_or, we_not, we_if, wo_I0, wo_I, wo_plus, wo_ixT, wo_ixL, wo_lenT, wo_lenL, wo_abs, wo_intB, wo_tup, wo_lst, wo_tupleL, wo_eqI, wo_eqB, wo_neS, wo_is, wo_isnot, List.map_cons, List.map_nil, List.length_cons, List.length_nil, Nat.reduceAdd, Nat.reduceSub, List.replicate, List.cons_append, List.nil_append, List.getElem?_cons_zero, List.getElem?_cons_succ, List.set_cons_zero, List.set_cons_succ, ex_some, ex_some1, ex_bl, ex_int, st_0, st_1, st_w1, st_w2, at3_0, at3_1, at3_2, at2_0, at2_1, st_push, st_len, st_2, lstOf_last, hl, hx]
    refine ⟨by omega, ?_⟩
    refine (forX_inv (fun i l S3 => ∃ v x2, l = [some (.ref 1), some v, x2] ∧ ∃ R T, R = R0 ++ T ∧ Kp ns rest (k + 1 + i) S3 R ∧ OfR R (i + 1) (10 + 5 * i) v) (rngD 0 x.toNat) 0 _ _ ⟨.non, none, rfl, _, _, List.append_assoc _ _ _, ⟨p.mono (by omega), h1.ex⟩, Pl.non.of⟩ ?_).mono ?_
    · rintro i y l S3 hy ⟨v, x2, rfl, R, T, rfl, q, hv⟩
      obtain ⟨hi, rfl⟩ := rngD_get hy
      rw [Nat.zero_add] at q hv ⊢
      simp only [wo_run, ws_seq, ws_if, wt_e, we_op, we_un, we_var, we_c, ws_asg, ws_ret, ws_drop, ws_next, ws_break, ws_cont, wg_name, wg_sub, wg_tup, wg_nil, wg_cons, we_call, we_methL, wa_cons, wa_nil, wt_and, wt_or, wt_not, we_and, we_or, we_not, we_if, wo_I0, wo_I, wo_plus, wo_ixT, wo_ixL, wo_lenT, wo_lenL, wo_abs, wo_intB, wo_tup, wo_lst, wo_tupleL, wo_eqI, wo_eqB, wo_neS, wo_is, wo_isnot, List.map_cons, List.map_nil, List.length_cons, List.length_nil, Nat.reduceAdd, Nat.reduceSub, List.replicate, List.cons_append, List.nil_append, List.getElem?_cons_zero, List.getElem?_cons_succ, List.set_cons_zero, List.set_cons_succ, ex_some, ex_some1, ex_bl, ex_int, st_0, st_1, st_w1, st_w2, at3_0, at3_1, at3_2, at2_0, at2_1, st_push, st_len, st_2, lstOf_last]
      refine ⟨by decide, by decide, by decide, ?_⟩
      obtain ⟨ex3, hlen3, hmore3⟩ := q.more
      have q3 := hmore3 [.lst [v], .lst [.ref ((R0 ++ T ++ ex3).length + 2), .tup [v]]]
      have hS : S3 ++ [Ob.lst [v]] ++ [Ob.lst [D.ref S3.length, D.tup [v]]] = S3 ++ [.lst [v], .lst [.ref ((R0 ++ T ++ ex3).length + 2), .tup [v]]] := by rw [hlen3]; simp
      rw [hS]
      refine (take_pn ns _ _ (k + 1 + i) 2 q3.pn (by omega) (by decide) (by decide)).mono ?_
      rintro w S4 ⟨⟨e, rfl, e0, e1⟩, p4⟩
      have hl4 : lstOf S4 (S3 ++ [Ob.lst [v]]).length = some [.ref ((R0 ++ T ++ ex3).length + 2), .tup [v]] := by
        rw [List.length_append, hlen3]
        exact pn_lstG (j := (R0 ++ T ++ ex3).length + 1) p4 (by rw [get_more]; rfl)
      simp only [wo_run, ws_seq, ws_if, wt_e, we_op, we_un, we_var, we_c, ws_asg, ws_ret, ws_drop, ws_next, ws_break, ws_cont, wg_name, wg_sub, wg_tup, wg_nil, wg_cons, we_call, we_methL, wa_cons, wa_nil, wt_and, wt_or, wt_not, we_and, we_or, we_not, we_if, wo_I0, wo_I, wo_plus, wo_ixT, wo_ixL, wo_lenT, wo_lenL, wo_abs, wo_intB, wo_tup, wo_lst, wo_tupleL, wo_eqI, wo_eqB, wo_neS, wo_is, wo_isnot, List.map_cons, List.map_nil, List.length_cons, List.length_nil, Nat.reduceAdd, Nat.reduceSub, List.replicate, List.cons_append, List.nil_append, List.getElem?_cons_zero, List.getElem?_cons_succ, List.set_cons_zero, List.set_cons_succ, ex_some, ex_some1, ex_bl, ex_int, st_0, st_1, st_w1, st_w2, at3_0, at3_1, at3_2, at2_0, at2_1, st_push, st_len, st_2, lstOf_last, hl4]
      have o1 : OfR (R0 ++ T ++ ex3 ++ [.lst [v], .lst [.ref ((R0 ++ T ++ ex3).length + 2), .tup [v]]]) (i + 1 + 1) (10 + 5 * (i + 1)) (.ref ((R0 ++ T ++ ex3).length + 2)) := by
        have := OfR.lst (R := R0 ++ T ++ ex3 ++ [.lst [v], .lst [.ref ((R0 ++ T ++ ex3).length + 2), .tup [v]]]) (k := i + 1) (B := 10 + 5 * i) (xs := [v]) (j := (R0 ++ T ++ ex3).length) (by rw [show (R0 ++ T ++ ex3).length = (R0 ++ T ++ ex3).length + 0 by rfl, get_more]; rfl) (fun x hx => by
          have : x = v := by simpa using hx
          rw [this]; exact (hv.app).app)
        exact this.mono (Nat.le_refl _) (by simp only [List.length_cons, List.length_nil]; omega)
      have o2 : OfR (R0 ++ T ++ ex3 ++ [.lst [v], .lst [.ref ((R0 ++ T ++ ex3).length + 2), .tup [v]]]) (i + 1 + 1) (10 + 5 * (i + 1)) (.tup [v]) := by
        have := OfR.tup (R := R0 ++ T ++ ex3 ++ [.lst [v], .lst [.ref ((R0 ++ T ++ ex3).length + 2), .tup [v]]]) (k := i + 1) (B := 10 + 5 * i) (xs := [v]) (fun x hx => by
          have : x = v := by simpa using hx
          rw [this]; exact (hv.app).app) (by simp)
        exact this.mono (Nat.le_refl _) (by simp only [List.length_cons, List.length_nil]; omega)
      have hq : Kp ns rest (k + 1 + (i + 1 : Nat)) S4 (R0 ++ T ++ ex3 ++ [.lst [v], .lst [.ref ((R0 ++ T ++ ex3).length + 2), .tup [v]]]) := ⟨p4.mono (by omega), q3.ex⟩
      have : e = 0 ∨ e = 1 := by omega
      rcases this with rfl | rfl
      · refine ⟨_, rfl, by first | exact .inl rfl | exact .inl trivial | trivial, _, _, rfl, _, T ++ ex3 ++ [.lst [v], .lst [.ref ((R0 ++ T ++ ex3).length + 2), .tup [v]]], by simp, hq, o1⟩
      · refine ⟨_, rfl, by first | exact .inl rfl | exact .inl trivial | trivial, _, _, rfl, _, T ++ ex3 ++ [.lst [v], .lst [.ref ((R0 ++ T ++ ex3).length + 2), .tup [v]]], by simp, hq, o2⟩
    · rintro f l' S' ⟨rfl, v, x2, rfl, R, T, rfl, q, hv⟩
      rw [rngD_len] at q hv
      exact ⟨rfl, v, x2, rfl, _, _, rfl, q.mono (by omega), hv.mono (by omega) (by omega)⟩
  rintro l S2 ⟨v, x2, rfl, R, T, rfl, q, hv⟩
  simp only [wo_run, ws_seq, ws_if, wt_e, we_op, we_un, we_var, we_c, ws_asg, ws_ret, ws_drop, ws_next, ws_break, ws_cont, wg_name, wg_sub, wg_tup, wg_nil, wg_cons, we_call, we_methL, wa_cons, wa_nil, wt_and, wt_or, wt_not, we_and, we_or, we_not, we_if, wo_I0, wo_I, wo_plus, wo_ixT, wo_ixL, wo_lenT, wo_lenL, wo_abs, wo_intB, wo_tup, wo_lst, wo_tupleL, wo_eqI, wo_eqB, wo_neS, wo_is, wo_isnot, List.map_cons, List.map_nil, List.length_cons, List.length_nil, Nat.reduceAdd, Nat.reduceSub, List.replicate, List.cons_append, List.nil_append, List.getElem?_cons_zero, List.getElem?_cons_succ, List.set_cons_zero, List.set_cons_succ, ex_some, ex_some1, ex_bl, ex_int, st_0, st_1, st_w1, st_w2, at3_0, at3_1, at3_2, at2_0, at2_1, st_push, st_len, st_2, lstOf_last]
  exact ⟨_, _, rfl, q, hv⟩
end M
set_option Elab.async false
set_option maxHeartbeats 4000000
set_option maxRecDepth 100000
namespace M
open PySem L3 G
theorem we_dict0 {l : Lo} {S : Sto} {Q : D → Sto → Prop} : We eDict0 l S Q = Q (.ref S.length) (S ++ [.dct []]) := by
  apply propext
  exact ⟨fun ⟨v, S', h, q⟩ => by cases h; exact q, fun q => ⟨_, _, rfl, q⟩⟩
theorem we_dict1 {l : Lo} {S : Sto} {Q : D → Sto → Prop} {i : Int} {n : Nat} {d : D} (h : l[n]? = some (some d)) : We (eDict1 i n) l S Q = Q (.ref S.length) (S ++ [.dct [(Sum.inl i, d)]]) := by
  apply propext
  unfold We eDict1
  rw [h]
  exact ⟨fun ⟨v, S', h, q⟩ => by cases h; exact q, fun q => ⟨_, _, rfl, q⟩⟩
theorem wo_neg {i : Int} {S : Sto} {Q : D → Sto → Prop} : Wo (dNeg (.int i) S) Q = Q (.int (-i)) S := wo_some
theorem other_ok (ns : List Int) (rest R0 : Sto) (S : Sto) (k most : Int) (B : Nat) (thing : D) (hP : Pl 10 B thing) (hm : 0 ≤ most) (hm2 : most ≤ 29) (h : Kp ns rest k S R0) (hk : 0 ≤ k) (hk2 : k < 600000000) :
    Wo (m_law_other [.ref 1, thing, .int most] S) fun v S' => ∃ R T, R = R0 ++ T ∧ Kp ns rest (k + 130) S' R ∧ OkR R 121 (B + 1100) v := by
  have sz := sizeBig
  unfold m_law_other b_law_other
  simp only [wo_run, List.map_cons, List.map_nil, List.length_cons, List.length_nil, Nat.reduceAdd, Nat.reduceSub, List.replicate, List.cons_append, List.nil_append]
  refine ws_cut (fun l S1 => ∃ w : Int, l = [some (.ref 1), some thing, some (.int most), some (.int w), none] ∧ (0 ≤ w ∧ w < 24) ∧ Kp ns rest (k + 1) S1 R0) ?_ ?_
  · simp only [wo_run, ws_seq, ws_if, wt_e, we_op, we_un, we_var, we_c, ws_asg, ws_ret, ws_drop, ws_next, ws_break, ws_cont, wg_name, wg_sub, wg_tup, wg_nil, wg_cons, we_call, we_methL, wa_cons, wa_nil, wt_and, wt_or, wt_not, we_and, we_or, we_not, we_if, wo_I0, wo_I, wo_plus, wo_ixT, wo_ixL, wo_lenT, wo_lenL, wo_abs, wo_intB, wo_tup, wo_lst, wo_tupleL, wo_eqI, wo_eqB, wo_neS, wo_is, wo_isnot, List.map_cons, List.map_nil, List.length_cons, List.length_nil, Nat.reduceAdd, Nat.reduceSub, List.replicate, List.cons_append, List.nil_append, List.getElem?_cons_zero, List.getElem?_cons_succ, List.set_cons_zero, List.set_cons_succ, ex_some, ex_some1, ex_bl, ex_int, st_0, st_1, st_w1, st_w2, at3_0, at3_1, at3_2, at2_0, at2_1, st_push, st_len, st_2, lstOf_last]
    refine (take_pn ns _ _ k 24 h.pn (by omega) (by decide) (by decide)).mono ?_
    rintro v S' ⟨⟨d, rfl, q1, q2⟩, p⟩
    exact ⟨by first | rfl | trivial, d, rfl, ⟨q1, q2⟩, p, h.ex⟩
  rintro l S1 ⟨w, rfl, ⟨w0, w1⟩, q1⟩
  rw [ws_seq]
  simp only [ws_if, wt_e, we_op, we_c, we_var, List.getElem?_cons_zero, List.getElem?_cons_succ, ex_some, wo_eqI, ex_bl]
  by_cases hw : w = 23
  · rw [decide_eq_true hw, if_pos rfl]
    simp only [ws_ret, we_call, wa_cons, wa_nil, we_var, List.getElem?_cons_zero, List.getElem?_cons_succ, ex_some]
    refine (deep_ok ns rest R0 S1 (k + 1) q1 (by omega) (by omega)).mono ?_
    rintro v S' ⟨R, T, rfl, q, hv⟩
    exact ⟨_, T, rfl, q.mono (by omega), .inl (hv.mono (by omega) (by omega))⟩
  · rw [decide_eq_false hw, if_neg Bool.false_ne_true]
    simp only [ws_next]
    obtain ⟨ex, hlen, hmore⟩ := q1.more
    obtain ⟨r0, hr0⟩ : ∃ r0, (R0 ++ ex).length = r0 := ⟨_, rfl⟩
    rw [hr0] at hlen
    have pw : (0 : Int) ≤ 29 ∧ (29 : Int) ≤ 1000000 ∧ Int.natAbs 10 < 2 ^ 64 := by decide
    refine ws_cut (fun l S2 => l = [some (.ref 1), some thing, some (.int most), some (.int w), some (.ref (r0 + 2 + 3))] ∧ S2 = S1 ++ [.lst [], .dct [], .lst [thing], .lst [.non, .bl true, .bl false, .int (-1), .int most, .int (most + 1), .int 0, .int (10 ^ Int.toNat 29), .int (-(10 ^ Int.toNat 29)), .str "0", .str "", .ref (r0 + 2), .tup [], .ref (r0 + 2 + 1), .ref (r0 + 2 + 2), .tup [thing]]]) ?_ ?_
    · simp only [wo_run, ws_seq, ws_if, wt_e, we_op, we_un, we_var, we_c, ws_asg, ws_ret, ws_drop, ws_next, ws_break, ws_cont, wg_name, wg_sub, wg_tup, wg_nil, wg_cons, we_call, we_methL, wa_cons, wa_nil, wt_and, wt_or, wt_not, we_and, we_or, we_not, we_if, wo_I0, wo_I, wo_plus, wo_ixT, wo_ixL, wo_lenT, wo_lenL, wo_abs, wo_intB, wo_tup, wo_lst, wo_tupleL, wo_eqI, wo_eqB, wo_neS, wo_is, wo_isnot, List.map_cons, List.map_nil, List.length_cons, List.length_nil, Nat.reduceAdd, Nat.reduceSub, List.replicate, List.cons_append, List.nil_append, List.getElem?_cons_zero, List.getElem?_cons_succ, List.set_cons_zero, List.set_cons_succ, ex_some, ex_some1, ex_bl, ex_int, st_0, st_1, st_w1, st_w2, at3_0, at3_1, at3_2, at2_0, at2_1, st_push, st_len, st_2, lstOf_last, wo_neg, we_un, we_dict0, pw, and_self, decide_true, true_and]
      refine ⟨by decide, by decide, by decide, by decide, by decide, ?_⟩
      simp only [List.length_append, List.length_cons, List.length_nil, hlen, List.append_assoc, List.cons_append, List.nil_append]
      first
        | exact ⟨by first | rfl | trivial, by first | rfl | trivial, by first | rfl | trivial⟩
        | exact ⟨by first | rfl | trivial, by first | rfl | trivial⟩
        | trivial
    rintro l S2 ⟨rfl, rfl⟩
    obtain ⟨L1, hL1⟩ : ∃ L1, L1 = [D.non, .bl true, .bl false, .int (-1), .int most, .int (most + 1), .int 0, .int (10 ^ Int.toNat 29), .int (-(10 ^ Int.toNat 29)), .str "0", .str "", .ref (r0 + 2), .tup [], .ref (r0 + 2 + 1), .ref (r0 + 2 + 2), .tup [thing]] := ⟨_, rfl⟩
    obtain ⟨L2, hL2⟩ : ∃ L2, L2 = [D.ref (r0 + 2 + 4), .str "None", .ref (r0 + 2 + 5), .tup [.non, .non], .tup [.int 0, .int 0, .int 0], .int (most - 1), .int 1] := ⟨_, rfl⟩
    have l1 : L1.length = 16 := by rw [hL1]; rfl
    have l2 : L2.length = 7 := by rw [hL2]; rfl
    obtain ⟨mo, hmo⟩ : ∃ mo : Sto, mo = [.lst [], .dct [], .lst [thing], .lst L1, .dct [(Sum.inl 0, thing)], .lst [.int 0], .lst L2, .lst (L1 ++ L2)] := ⟨_, rfl⟩
    refine ws_cut (fun l S2 => l = [some (.ref 1), some thing, some (.int most), some (.int w), some (.ref (r0 + 2 + 7))] ∧ S2 = S1 ++ mo) ?_ ?_
    · simp only [ws_asg, we_op, we_call, wa_cons, wa_nil, we_c, we_dict1 (l := [some (.ref 1), some thing, some (.int most), some (.int w), some (.ref (r0 + 2 + 3))]) (n := 1) rfl, we_var, List.getElem?_cons_zero, List.getElem?_cons_succ, ex_some, wo_lst, wo_tup, wo_I0, wg_name, List.set_cons_zero, List.set_cons_succ, List.length_cons, List.length_nil, Nat.reduceAdd]
      rw [← hL1]
      refine ⟨by decide, by decide, by decide, by decide, ?_⟩
      have hst : S1 ++ [Ob.lst [], Ob.dct [], Ob.lst [thing], Ob.lst L1] ++ [Ob.dct [(Sum.inl 0, thing)]] ++ [Ob.lst [D.int 0]] ++ [Ob.lst [D.ref (S1 ++ [Ob.lst [], Ob.dct [], Ob.lst [thing], Ob.lst L1]).length, D.str "None", D.ref (S1 ++ [Ob.lst [], Ob.dct [], Ob.lst [thing], Ob.lst L1] ++ [Ob.dct [(Sum.inl 0, thing)]]).length, D.tup [D.non, D.non], D.tup [D.int 0, D.int 0, D.int 0], D.int (most - 1), D.int 1]] = S1 ++ [Ob.lst [], Ob.dct [], Ob.lst [thing], Ob.lst L1, Ob.dct [(Sum.inl 0, thing)], Ob.lst [D.int 0], Ob.lst L2] := by
        rw [hL2]
        simp only [List.length_append, List.length_cons, List.length_nil, hlen, List.append_assoc, List.cons_append, List.nil_append]
      have hix : (S1 ++ [Ob.lst [], Ob.dct [], Ob.lst [thing], Ob.lst L1] ++ [Ob.dct [(Sum.inl 0, thing)]] ++ [Ob.lst [D.int 0]]).length = r0 + 2 + 6 := by
        simp only [List.length_append, List.length_cons, List.length_nil, hlen]
      rw [hst, hix]
      have g3 : (S1 ++ [.lst [], .dct [], .lst [thing], .lst L1, .dct [(Sum.inl 0, thing)], .lst [.int 0], .lst L2])[r0 + 2 + 3]? = some (.lst L1) := by rw [← hlen, get_more]; rfl
      have g6 : (S1 ++ [.lst [], .dct [], .lst [thing], .lst L1, .dct [(Sum.inl 0, thing)], .lst [.int 0], .lst L2])[r0 + 2 + 6]? = some (.lst L2) := by rw [← hlen, get_more]; rfl
      rw [wo_plusL g3 g6 (by rw [l1, l2]; omega)]
      refine ⟨by first | rfl | trivial, ?_, ?_⟩
      · simp only [List.length_append, List.length_cons, List.length_nil, hlen]
      · rw [hmo]; simp
    rintro l S2 ⟨rfl, rfl⟩
    have q2 := hmore mo
    have g7 : lstOf (S1 ++ mo) (r0 + 2 + 7) = some (L1 ++ L2) := by
      unfold lstOf; rw [← hlen, get_more, hmo]; rfl
    obtain ⟨v, hv, hv2⟩ := atI_in (L1 ++ L2) w w0 (by rw [List.length_append, l1, l2]; omega)
    simp only [wo_run, ws_seq, ws_if, wt_e, we_op, we_un, we_var, we_c, ws_asg, ws_ret, ws_drop, ws_next, ws_break, ws_cont, wg_name, wg_sub, wg_tup, wg_nil, wg_cons, we_call, we_methL, wa_cons, wa_nil, wt_and, wt_or, wt_not, we_and, we_or, we_not, we_if, wo_I0, wo_I, wo_plus, wo_ixT, wo_ixL, wo_lenT, wo_lenL, wo_abs, wo_intB, wo_tup, wo_lst, wo_tupleL, wo_eqI, wo_eqB, wo_neS, wo_is, wo_isnot, List.map_cons, List.map_nil, List.length_cons, List.length_nil, Nat.reduceAdd, Nat.reduceSub, List.replicate, List.cons_append, List.nil_append, List.getElem?_cons_zero, List.getElem?_cons_succ, List.set_cons_zero, List.set_cons_succ, ex_some, ex_some1, ex_bl, ex_int, st_0, st_1, st_w1, st_w2, at3_0, at3_1, at3_2, at2_0, at2_1, st_push, st_len, st_2, lstOf_last, g7, hv]
    refine ⟨R0 ++ ex ++ mo, ex ++ mo, by rw [List.append_assoc], q2.mono (by omega), ?_⟩
    have gR : ∀ i o, mo[i]? = some o → (R0 ++ ex ++ mo)[r0 + i]? = some o := fun i o h => by rw [← hr0, get_more]; exact h
    have two : ∀ d, Pl 1 10 d → OkR (R0 ++ ex ++ mo) 121 (B + 1100) d := fun d hd => .inl (hd.of.mono (by omega) (by omega))
    have tall : (PyData.int (10 ^ Int.toNat 29)).shown.length ≤ 40 ∧ (10 ^ Int.toNat 29 : Int).natAbs.log2 < 1920 ∧ (PyData.int (-(10 ^ Int.toNat 29))).shown.length ≤ 40 ∧ (-(10 ^ Int.toNat 29) : Int).natAbs.log2 < 1920 := by decide +kernel
    rcases List.mem_append.mp hv2 with hv2 | hv2
    · rw [hL1] at hv2
      simp only [List.mem_cons, List.not_mem_nil, or_false] at hv2
      rcases hv2 with rfl | rfl | rfl | rfl | rfl | rfl | rfl | rfl | rfl | rfl | rfl | rfl | rfl | rfl | rfl | rfl
      · exact two _ Pl.non
      · exact two _ (Pl.bl _)
      · exact two _ (Pl.bl _)
      · exact two _ (Pl.small _ (by omega) (by omega))
      · exact two _ (Pl.small _ (by omega) (by omega))
      · exact two _ (Pl.small _ (by omega) (by omega))
      · exact two _ (Pl.small _ (by omega) (by omega))
      · exact .inl ((Pl.int _ tall.1 tall.2.1).of.mono (by omega) (by omega))
      · exact .inl ((Pl.int _ tall.2.2.1 tall.2.2.2).of.mono (by omega) (by omega))
      · exact two _ (Pl.str _ (by decide +kernel))
      · exact two _ (Pl.str _ (by decide +kernel))
      · exact .inl ((OfR.lst (k := 1) (B := 10) (gR 0 (.lst []) (by rw [hmo]; rfl)) (by intro x hx; cases hx)).mono (by omega) (by simp only [List.length_nil]; omega))
      · exact .inl ((Pl.tup (k := 1) (B := 10) (xs := []) (by intro x hx; cases hx) (by decide)).of.mono (by omega) (by simp only [List.length_nil]; omega))
      · exact .inr ((TR.dict0 (gR 1 (.dct []) (by rw [hmo]; rfl))).mono (by omega) (by omega))
      · exact .inl ((OfR.lst (k := 10) (B := B) (gR 2 (.lst [thing]) (by rw [hmo]; rfl)) (fun x hx => by
          have : x = thing := by simpa using hx
          rw [this]; exact hP.of)).mono (by omega) (by simp only [List.length_cons, List.length_nil]; omega))
      · exact .inl ((Pl.tup (k := 10) (B := B) (xs := [thing]) (fun x hx => by
          have : x = thing := by simpa using hx
          rw [this]; exact hP) (by simp)).of.mono (by omega) (by simp only [List.length_cons, List.length_nil]; omega))
    · rw [hL2] at hv2
      simp only [List.mem_cons, List.not_mem_nil, or_false] at hv2
      rcases hv2 with rfl | rfl | rfl | rfl | rfl | rfl | rfl
      · exact .inr ((TR.dict1 (k := 10) (B := B) (gR 4 (.dct [(Sum.inl 0, thing)]) (by rw [hmo]; rfl)) hP.tr).mono (by omega) (by omega))
      · exact two _ (Pl.str _ (by decide +kernel))
      · exact .inl ((OfR.lst (k := 1) (B := 10) (gR 5 (.lst [.int 0]) (by rw [hmo]; rfl)) (fun x hx => by
          have : x = .int 0 := by simpa using hx
          rw [this]; exact (Pl.small 0 (by omega) (by omega)).of)).mono (by omega) (by simp only [List.length_cons, List.length_nil]; omega))
      · exact .inl ((Pl.tup (k := 1) (B := 10) (xs := [.non, .non]) (fun x hx => by
          have : x = .non := by simpa using hx
          rw [this]; exact Pl.non) (by simp)).of.mono (by omega) (by simp only [List.length_cons, List.length_nil]; omega))
      · exact .inl ((Pl.tup (k := 1) (B := 10) (xs := [.int 0, .int 0, .int 0]) (fun x hx => by
          have : x = .int 0 := by simpa using hx
          rw [this]; exact Pl.small 0 (by omega) (by omega)) (by simp)).of.mono (by omega) (by simp only [List.length_cons, List.length_nil]; omega))
      · exact two _ (Pl.small _ (by omega) (by omega))
      · exact two _ (Pl.small _ (by omega) (by omega))
end M
set_option Elab.async false
set_option maxHeartbeats 4000000
set_option maxRecDepth 100000
namespace M
open PySem L3 G
theorem put_ok (S : Sto) (xs : List D) (at' : Int) (v : D) (hl : xs.length ≤ 1000) : Wo (m_law_put [.tup xs, .int at', v] S) fun r S' => S' = S ∧ ∃ ys, r = .tup ys ∧ ys.length ≤ 2 * xs.length + 1 ∧ ∀ y ∈ ys, y ∈ xs ∨ y = v := by
  have sz := sizeBig
  have c1 := cut_len xs none (some at')
  have c2 := cut_len xs (some (at' + 1)) none
  unfold m_law_put b_law_put
  simp only [wo_run, ws_seq, ws_if, wt_e, we_op, we_un, we_var, we_c, ws_asg, ws_ret, ws_drop, ws_next, ws_break, ws_cont, wg_name, wg_sub, wg_tup, wg_nil, wg_cons, we_call, we_methL, wa_cons, wa_nil, wt_and, wt_or, wt_not, we_and, we_or, we_not, we_if, wo_I0, wo_I, wo_plus, wo_ixT, wo_ixL, wo_lenT, wo_lenL, wo_abs, wo_intB, wo_tup, wo_lst, wo_tupleL, wo_eqI, wo_eqB, wo_neS, wo_is, wo_isnot, List.map_cons, List.map_nil, List.length_cons, List.length_nil, Nat.reduceAdd, Nat.reduceSub, List.replicate, List.cons_append, List.nil_append, List.getElem?_cons_zero, List.getElem?_cons_succ, List.set_cons_zero, List.set_cons_succ, ex_some, ex_some1, ex_bl, ex_int, st_0, st_1, st_w1, st_w2, at3_0, at3_1, at3_2, at2_0, at2_1, st_push, st_len, st_2, lstOf_last, we_slN, we_slS, ex_tup, ex_int1, wo_plusT]
  refine ⟨by decide, by omega, by rw [List.length_append, List.length_singleton]; omega, trivial, by rw [List.length_append, List.length_append, List.length_singleton]; omega, fun y hy => ?_⟩
  rcases List.mem_append.mp hy with hy | hy
  · rcases List.mem_append.mp hy with hy | hy
    · exact .inl (cut_mem hy)
    · exact .inr (by simpa using hy)
  · exact .inl (cut_mem hy)
theorem we_slB {a b c : EM} {l : Lo} {S : Sto} {Q : D → Sto → Prop} : We (eSl a (oSome b) (oSome c)) l S Q = We a l S fun x S1 => We b l S1 fun y S2 => We c l S2 fun z S3 => ∃ xs, x = .tup xs ∧ ∃ j, y = .int j ∧ ∃ k, z = .int k ∧ Q (.tup (cutD xs (some j) (some k))) S3 := by
  apply propext
  constructor
  · rintro ⟨v, S', h, q⟩
    obtain ⟨⟨x, S1⟩, h1, h⟩ := bnd h
    obtain ⟨⟨o, S2⟩, h2, h⟩ := bnd h
    obtain ⟨⟨o2, S3⟩, h3, h⟩ := bnd h
    obtain ⟨⟨y, S4⟩, h4, h2⟩ := bnd h2
    obtain ⟨⟨z, S5⟩, h5, h3⟩ := bnd h3
    cases y with
    | int j =>
      cases h2
      cases z with
      | int k =>
        cases h3
        refine ⟨x, _, h1, _, _, h4, _, _, h5, ?_⟩
        cases x with
        | tup xs => cases h; exact ⟨xs, rfl, j, rfl, k, rfl, q⟩
        | _ => cases h
      | _ => cases h3
    | _ => cases h2
  · rintro ⟨x, S1, h1, y, S2, h2, z, S3, h3, xs, rfl, j, rfl, k, rfl, q⟩
    refine ⟨_, _, ?_, q⟩
    unfold eSl
    rw [h1]
    have e2 : oSome b l S1 = some (some j, S2) := by unfold oSome; rw [h2]; rfl
    have e3 : oSome c l S2 = some (some k, S3) := by unfold oSome; rw [h3]; rfl
    show (oSome b l S1).bind _ = _
    rw [e2]
    show (oSome c l S2).bind _ = _
    rw [e3]; rfl
theorem wo_listT {S : Sto} {xs : List D} {Q : D → Sto → Prop} : Wo (fList [.tup xs] S) Q = Q (.ref S.length) (S ++ [.lst xs]) := wo_some
theorem row_bent_ok (ns : List Int) (rest R0 : Sto) (S : Sto) (k : Int) (KK B : Nat) (xs : List D) (hP : ∀ x ∈ xs, Pl KK B x) (h0 : 0 < xs.length) (hl : xs.length ≤ 100) (h : Kp ns rest k S R0) (hk : 0 ≤ k) (hk2 : k < 600000000) :
    Wo (m_law_row_bent [.ref 1, .tup xs] S) fun v S' => ∃ R T, R = R0 ++ T ∧ Kp ns rest (k + 2) S' R ∧ OfR R (KK + 1) ((B + 2) * 300 + 3) v := by
  have sz := sizeBig
  unfold m_law_row_bent b_law_row_bent
  simp only [wo_run, List.map_cons, List.map_nil, List.length_cons, List.length_nil, Nat.reduceAdd, Nat.reduceSub, List.replicate, List.cons_append, List.nil_append]
  refine ws_cut (fun l S1 => ∃ a : Int, l = [some (.ref 1), some (.tup xs), some (.int a), none] ∧ Kp ns rest (k + 1) S1 R0) ?_ ?_
  · simp only [wo_run, ws_seq, ws_if, wt_e, we_op, we_un, we_var, we_c, ws_asg, ws_ret, ws_drop, ws_next, ws_break, ws_cont, wg_name, wg_sub, wg_tup, wg_nil, wg_cons, we_call, we_methL, wa_cons, wa_nil, wt_and, wt_or, wt_not, we_and, we_or, we_not, we_if, wo_I0, wo_I, wo_plus, wo_ixT, wo_ixL, wo_lenT, wo_lenL, wo_abs, wo_intB, wo_tup, wo_lst, wo_tupleL, wo_eqI, wo_eqB, wo_neS, wo_is, wo_isnot, List.map_cons, List.map_nil, List.length_cons, List.length_nil, Nat.reduceAdd, Nat.reduceSub, List.replicate, List.cons_append, List.nil_append, List.getElem?_cons_zero, List.getElem?_cons_succ, List.set_cons_zero, List.set_cons_succ, ex_some, ex_some1, ex_bl, ex_int, st_0, st_1, st_w1, st_w2, at3_0, at3_1, at3_2, at2_0, at2_1, st_push, st_len, st_2, lstOf_last]
    refine (take_pn ns _ _ k xs.length h.pn (by omega) (by omega) (by omega)).mono ?_
    rintro v S' ⟨⟨d, rfl, q1, q2⟩, p⟩
    exact ⟨by first | rfl | trivial, d, rfl, p, h.ex⟩
  rintro l S1 ⟨a, rfl, q1⟩
  have c1 := cut_len xs none (some a)
  have c2 := cut_len xs (some a) (some (a + 1))
  have c3 := cut_len xs (some a) none
  have c4 := cut_len xs (some 1) none
  refine ws_cut (fun l S2 => l = [some (.ref 1), some (.tup xs), some (.int a), some (.tup (cutD xs none (some a) ++ cutD xs (some a) (some (a + 1)) ++ cutD xs (some a) none))] ∧ S2 = S1) ?_ ?_
  · simp only [wo_run, ws_seq, ws_if, wt_e, we_op, we_un, we_var, we_c, ws_asg, ws_ret, ws_drop, ws_next, ws_break, ws_cont, wg_name, wg_sub, wg_tup, wg_nil, wg_cons, we_call, we_methL, wa_cons, wa_nil, wt_and, wt_or, wt_not, we_and, we_or, we_not, we_if, wo_I0, wo_I, wo_plus, wo_ixT, wo_ixL, wo_lenT, wo_lenL, wo_abs, wo_intB, wo_tup, wo_lst, wo_tupleL, wo_eqI, wo_eqB, wo_neS, wo_is, wo_isnot, List.map_cons, List.map_nil, List.length_cons, List.length_nil, Nat.reduceAdd, Nat.reduceSub, List.replicate, List.cons_append, List.nil_append, List.getElem?_cons_zero, List.getElem?_cons_succ, List.set_cons_zero, List.set_cons_succ, ex_some, ex_some1, ex_bl, ex_int, st_0, st_1, st_w1, st_w2, at3_0, at3_1, at3_2, at2_0, at2_1, st_push, st_len, st_2, lstOf_last, we_slN, we_slS, we_slB, ex_tup, ex_int1, wo_plusT]
    refine ⟨by omega, by rw [List.length_append]; omega, by first | rfl | trivial, by first | rfl | trivial⟩
  rintro l S2 ⟨rfl, rfl⟩
  obtain ⟨ex, hlen, hmore⟩ := q1.more
  obtain ⟨L, hL⟩ : ∃ L, L = [D.ref ((R0 ++ ex).length + 2), .tup (cutD xs (some 1) none), .tup (xs ++ cutD xs (some a) (some (a + 1))), .tup (cutD xs none (some a) ++ cutD xs (some a) (some (a + 1)) ++ cutD xs (some a) none), .tup []] := ⟨_, rfl⟩
  have q2 := hmore [.lst xs, .lst L]
  simp only [ws_ret, we_op, we_call, wa_cons, wa_nil, we_var, we_c, List.getElem?_cons_zero, List.getElem?_cons_succ, ex_some, wo_listT, we_slS, we_slB, ex_tup, ex_int1, wo_plusT, wo_plus, wo_tup, wo_lst, List.length_cons, List.length_nil, Nat.reduceAdd]
  refine ⟨by omega, by decide, by decide, ?_⟩
  have hS : S2 ++ [Ob.lst xs] ++ [Ob.lst [D.ref S2.length, .tup (cutD xs (some 1) none), .tup (xs ++ cutD xs (some a) (some (a + 1))), .tup (cutD xs none (some a) ++ cutD xs (some a) (some (a + 1)) ++ cutD xs (some a) none), .tup []]] = S2 ++ [.lst xs, .lst L] := by rw [hL, hlen]; simp
  rw [hS]
  refine (take_pn ns _ _ (k + 1) 5 q2.pn (by omega) (by decide) (by decide)).mono ?_
  rintro w S4 ⟨⟨e, rfl, e0, e1⟩, p4⟩
  have hl4 : lstOf S4 (S2 ++ [Ob.lst xs]).length = some L := by
    rw [List.length_append, hlen]
    exact pn_lstG (j := (R0 ++ ex).length + 1) p4 (by rw [get_more]; rfl)
  obtain ⟨v, hv, hv2⟩ := atI_in L e e0 (by rw [hL]; simp only [List.length_cons, List.length_nil]; omega)
  simp only [wo_ixL, hl4, ex_some1, hv]
  have tu : ∀ ys : List D, (∀ y ∈ ys, y ∈ xs) → ys.length ≤ 300 → OfR (R0 ++ ex ++ [.lst xs, .lst L]) (KK + 1) ((B + 2) * 300 + 3) (.tup ys) := fun ys hy hyl =>
    (Pl.tup (k := KK) (B := B) (xs := ys) (fun y h => hP y (hy y h)) (by omega)).of.mono (Nat.le_refl _) (Nat.add_le_add_right (Nat.mul_le_mul_left _ hyl) 3)
  refine ⟨_, ex ++ [.lst xs, .lst L], by rw [List.append_assoc], ⟨p4.mono (by omega), q2.ex⟩, ?_⟩
  rw [hL] at hv2
  simp only [List.mem_cons, List.not_mem_nil, or_false] at hv2
  rcases hv2 with rfl | rfl | rfl | rfl | rfl
  · exact (OfR.lst (k := KK) (B := B) (xs := xs) (j := (R0 ++ ex).length) (by rw [show (R0 ++ ex).length = (R0 ++ ex).length + 0 by rfl, get_more]; rfl) (fun x hx => (hP x hx).of)).mono (Nat.le_refl _) (Nat.add_le_add_right (Nat.mul_le_mul_left _ (by omega)) 3)
  · exact tu _ (fun y hy => cut_mem hy) (by omega)
  · exact tu _ (fun y hy => (List.mem_append.mp hy).elim id fun h => cut_mem h) (by rw [List.length_append]; omega)
  · refine tu _ (fun y hy => ?_) (by rw [List.length_append, List.length_append]; omega)
    rcases List.mem_append.mp hy with hy | hy
    · exact (List.mem_append.mp hy).elim (fun h => cut_mem h) fun h => cut_mem h
    · exact cut_mem hy
  · exact tu _ (by intro y hy; cases hy) (by decide)
end M
set_option Elab.async false
set_option maxHeartbeats 4000000
set_option maxRecDepth 100000
namespace M
open PySem L3 G
theorem ok_tup {R : Sto} {K B : Nat} {xs : List D} {v : D} (hv : OkR R K B v) (h : ∀ x ∈ xs, Pl K B x ∨ x = v) (hl : xs.length ≤ 1000) : OkR R (K + 1) ((B + 2) * xs.length + 3) (.tup xs) := by
  rcases hv with hv | hv
  · exact .inl (OfR.tup (fun x hx => (h x hx).elim (fun p => p.of) fun e => e ▸ hv) hl)
  · exact .inr (TR.tup (fun x hx => (h x hx).elim (fun p => p.tr) fun e => e ▸ hv) hl)
theorem ok_to {R : Sto} {K B : Nat} {n N : Nat} {d : D} (h : OkR R K ((B + 2) * n + 3) d) (hn : n ≤ N) : OkR R K ((B + 2) * N + 3) d := h.mono (Nat.le_refl _) (Nat.add_le_add_right (Nat.mul_le_mul_left _ hn) 3)
theorem pl_or {m : Int} {d : D} (h : Or0 m d) (hm : m ≤ 29) : Pl 1 10 d := by
  rcases h with rfl | ⟨i, rfl, h0, h1⟩
  · exact Pl.non
  · exact Pl.small i (by omega) (by omega)
theorem pl_cell {m kn : Int} {d : D} (h : IsCell m kn d) (hm : m ≤ 29) (hn : kn ≤ 29) : Pl 2 27 d := by
  obtain ⟨g, s, rfl, hg, hs⟩ := h
  exact (Pl.tup (k := 1) (B := 10) (xs := [g, s]) (fun x hx => by
    simp only [List.mem_cons, List.not_mem_nil, or_false] at hx
    rcases hx with rfl | rfl
    · exact pl_or hg hm
    · exact pl_or hs hn) (by simp)).mono (Nat.le_refl _) (by simp only [List.length_cons, List.length_nil]; omega)
theorem pl_room {asks : Nat} {m kn : Int} {d : D} (h : IsRoom asks m kn d) (ha : asks ≤ 6) (hm : m ≤ 29) (hn : kn ≤ 29) : Pl 3 200 d := by
  obtain ⟨cs, rfl, hl, hc⟩ := h
  exact (Pl.tup (k := 2) (B := 27) (xs := cs) (fun x hx => pl_cell (hc x hx) hm hn) (by omega)).mono (Nat.le_refl _) (by
    have : (27 + 2) * cs.length ≤ (27 + 2) * 6 := Nat.mul_le_mul_left _ (by omega)
    omega)
theorem pl_rooms {asks : Nat} {m kn : Int} {rooms : List D} (h : ∀ r ∈ rooms, IsRoom asks m kn r) (ha : asks ≤ 6) (hm : m ≤ 29) (hn : kn ≤ 29) (hl : rooms.length ≤ 40) : Pl 4 9000 (.tup rooms) :=
  (Pl.tup (k := 3) (B := 200) (xs := rooms) (fun x hx => pl_room (h x hx) ha hm hn) (by omega)).mono (Nat.le_refl _) (by
    have : (200 + 2) * rooms.length ≤ (200 + 2) * 40 := Nat.mul_le_mul_left _ hl
    omega)
theorem pick4d (i : Int) (h0 : 0 ≤ i) (h1 : i < 4) : ∃ x : Int, L2.atI [D.int 24, D.int 25, D.int 23, D.int 26] i = some (.int x) ∧ 0 ≤ x ∧ x ≤ 26 := by
  have : i = 0 ∨ i = 1 ∨ i = 2 ∨ i = 3 := by omega
  rcases this with rfl | rfl | rfl | rfl <;> exact ⟨_, rfl, by decide, by decide⟩
theorem wo_timesT {x : D} {xs : List D} {k : Int} {S : Sto} {Q : D → Sto → Prop} : Wo (dTimes (.tup (x :: xs)) (.int k) S) Q = ((0 ≤ k ∧ k < 2 ^ 31 ∧ (xs.length + 1) * k.toNat ≤ sizeLine) ∧ Q (.tup (List.replicate k.toNat (x :: xs)).flatten) S) := wo_ite
theorem reps_mem {x y : D} {k : Nat} (h : y ∈ (List.replicate k [x]).flatten) : y = x := by
  obtain ⟨l, h1, h2⟩ := List.mem_flatten.mp h
  rw [List.eq_of_mem_replicate h1] at h2
  simpa using h2
theorem get_r0 {T more : Sto} {o : Ob} : (T ++ o :: more)[T.length]? = some o := by rw [List.getElem?_append_right (Nat.le_refl _)]; simp
theorem skip {w c : Int} {mm n : SM} {l : Lo} {S : Sto} {Q : Fl → Lo → Sto → Prop} (hl : l[2]? = some (some (.int w))) (hc : w ≠ c) (h : Ws n l S Q) : Ws (sSeq (sIf (tE (eOp dEq (eVar 2) (eC (.int c)))) mm sNext) n) l S Q := by
  rw [ws_seq]
  simp only [ws_if, wt_e, we_op, we_var, we_c, hl, ex_some, wo_eqI, ex_bl]
  rw [decide_eq_false hc, if_neg Bool.false_ne_true]
  rw [ws_next]
  exact h
theorem hit {w c : Int} {e : EM} {n : SM} {l : Lo} {S : Sto} {Q : Fl → Lo → Sto → Prop} (hl : l[2]? = some (some (.int w))) (hc : w = c) (h : We e l S fun x S1 => Q (.rt x) l S1) : Ws (sSeq (sIf (tE (eOp dEq (eVar 2) (eC (.int c)))) (sRet e) sNext) n) l S Q := by
  rw [ws_seq]
  simp only [ws_if, wt_e, we_op, we_var, we_c, hl, ex_some, wo_eqI, ex_bl]
  rw [decide_eq_true hc, if_pos rfl]
  rw [ws_ret]
  exact h
theorem hit2 {w c : Int} {m1 : SM} {e : EM} {n : SM} {l : Lo} {S : Sto} {Q : Fl → Lo → Sto → Prop} (hl : l[2]? = some (some (.int w))) (hc : w = c) (R : Lo → Sto → Prop) (h1 : Ws m1 l S fun f l1 S1 => f = .nx ∧ R l1 S1) (h : ∀ l1 S1, R l1 S1 → We e l1 S1 fun x S2 => Q (.rt x) l1 S2) : Ws (sSeq (sIf (tE (eOp dEq (eVar 2) (eC (.int c)))) (sSeq m1 (sRet e)) sNext) n) l S Q := by
  rw [ws_seq]
  simp only [ws_if, wt_e, we_op, we_var, we_c, hl, ex_some, wo_eqI, ex_bl]
  rw [decide_eq_true hc, if_pos rfl]
  refine ws_cut R h1 fun l1 S1 hr => ?_
  rw [ws_ret]
  exact h l1 S1 hr
theorem wo_subI {i j : Int} {S : Sto} {Q : D → Sto → Prop} : Wo (dSub (.int i) (.int j) S) Q = Q (.int (i - j)) S := wo_some
section
variable {ns : List Int} {rest R0 S : Sto} {k : Int} {rooms : List D} {asks : Nat} {many : Int}
structure Mc (rooms : List D) (asks : Nat) (many : Int) : Prop where
  a1 : 1 ≤ asks
  a2 : asks ≤ 4
  hm : (rooms.length : Int) = many
  m1 : 1 ≤ many
  m2 : many ≤ 24
  all : ∀ r ∈ rooms, IsRoom asks many 8 r
theorem Mc.rl (m : Mc rooms asks many) : rooms.length ≤ 24 := by have := m.hm; have := m.m2; omega
theorem Mc.pr (m : Mc rooms asks many) : Pl 4 9000 (.tup rooms) := pl_rooms m.all (by have := m.a2; omega) (by have := m.m2; omega) (by decide) (by have := m.rl; omega)
theorem Mc.pa (m : Mc rooms asks many) : Pl 1 10 (.int asks) := Pl.small _ (by omega) (by have := m.a2; omega)
theorem Mc.pm (m : Mc rooms asks many) : Pl 5 20000 (.tup [.int asks, .tup rooms]) :=
  (Pl.tup (k := 4) (B := 9000) (xs := [.int asks, .tup rooms]) (fun x hx => by
    simp only [List.mem_cons, List.not_mem_nil, or_false] at hx
    rcases hx with rfl | rfl
    · exact m.pa.mono (by omega) (by omega)
    · exact m.pr) (by simp)).mono (Nat.le_refl _) (by simp only [List.length_cons, List.length_nil]; omega)
theorem Mc.pair (m : Mc rooms asks many) {R : Sto} {K B : Nat} {v : D} (hK : 1 ≤ K) (hB : 10 ≤ B) (hv : OkR R K B v) : OkR R (K + 1) (2 * B + 7) (.tup [.int asks, v]) :=
  (ok_tup hv (xs := [.int asks, v]) (fun x hx => by
    simp only [List.mem_cons, List.not_mem_nil, or_false] at hx
    rcases hx with rfl | rfl
    · exact .inl (m.pa.mono hK hB)
    · exact .inr rfl) (by simp)).mono (Nat.le_refl _) (by simp only [List.length_cons, List.length_nil]; omega)
theorem Mc.putr (m : Mc rooms asks many) {R : Sto} {K B : Nat} {v : D} {ys : List D} (hK : 3 ≤ K) (hB : 200 ≤ B) (hv : OkR R K B v) (hl : ys.length ≤ 2 * rooms.length + 1) (hy : ∀ y ∈ ys, y ∈ rooms ∨ y = v) : OkR R (K + 2) (2 * ((B + 2) * 49 + 3) + 7) (.tup [.int asks, .tup ys]) :=
  m.pair (by omega) (by omega) (ok_to (ok_tup hv (xs := ys) (fun y h => (hy y h).elim (fun h => .inl ((pl_room (m.all y h) (by have := m.a2; omega) (by have := m.m2; omega) (by decide)).mono hK hB)) .inr) (by have := m.rl; omega)) (by have := m.rl; omega))
theorem tail_ok {w a b : Int} {cs : List D} {go te : D} {Q : Fl → Lo → Sto → Prop} (m : Mc rooms asks many) (hroom : L2.atI rooms a = some (.tup cs)) (hcs : ∀ c ∈ cs, IsCell many 8 c) (hcl : cs.length ≤ 4) (hgo : Or0 many go) (hte : Or0 8 te) (w6 : 6 ≤ w) (w9 : w < 9) (q4 : Kp ns rest (k + 3) S R0) (hk : 0 ≤ k) (hk2 : k < 500000000)
    (hQ : ∀ v l S' R T, R = R0 ++ T → Kp ns rest (k + 600) S' R → OkR R 130 16000000 v → Q (.rt v) l S') :
    Ws (sSeq (sAsg (eOp dIx (eCall fLst (aCons (eCall fTup (aCons (eCall m_law_other (aCons (eVar 0) (aCons (eVar 7) (aCons (eCall fLen (aCons (eVar 4) (aNil))) (aNil))))) (aCons (eVar 8) (aNil)))) (aCons (eCall fTup (aCons (eVar 7) (aCons (eCall m_law_other (aCons (eVar 0) (aCons (eVar 8) (aCons (eC (.int 8)) (aNil))))) (aNil)))) (aCons (eC .non) (aNil))))) (eOp dSub (eVar 2) (eC (.int 6)))) (gName3 11)) (sSeq (sIf (tE (eOp dEq (eVar 2) (eC (.int 8)))) (sAsg (eOp dIx (eCall fLst (aCons (eCall fLst (aCons (eVar 7) (aCons (eVar 8) (aNil)))) (aCons (eCall fTup (aCons (eVar 7) (aNil))) (aCons (eCall fTup (aCons (eVar 7) (aCons (eVar 8) (aCons (eC .non) (aNil))))) (aCons (eCall m_law_other (aCons (eVar 0) (aCons (eCall fTup (aCons (eVar 7) (aCons (eVar 8) (aNil)))) (aCons (eC (.int 2)) (aNil))))) (aNil)))))) (eCall m_law_take (aCons (eVar 0) (aCons (eC (.int 4)) (aNil))))) (gName3 11)) (sNext)) (sRet (eCall fTup (aCons (eVar 3) (aCons (eCall m_law_put (aCons (eVar 4) (aCons (eVar 5) (aCons (eCall m_law_put (aCons (eOp dIx (eVar 4) (eVar 5)) (aCons (eVar 6) (aCons (eVar 11) (aNil))))) (aNil))))) (aNil))))))) [some (.ref 1), some (.tup [.int asks, .tup rooms]), some (.int w), some (.int asks), some (.tup rooms), some (.int a), some (.int b), some go, some te, none, none, none] S Q := by
  have sz := sizeBig
  have rl := m.rl
  have m2 := m.m2
  have hm := m.hm
  have plgo := pl_or hgo (by omega)
  have plte := pl_or hte (by decide)
  have plpair : Pl 2 27 (.tup [go, te]) := pl_cell ⟨go, te, rfl, hgo, hte⟩ (by omega) (by decide)
  refine ws_cut (fun l S6 => ∃ v R T, l = [some (.ref 1), some (.tup [.int asks, .tup rooms]), some (.int w), some (.int asks), some (.tup rooms), some (.int a), some (.int b), some go, some te, none, none, some v] ∧ R = R0 ++ T ∧ Kp ns rest (k + 264) S6 R ∧ OkR R 122 3000 v) ?_ ?_
  · simp only [ws_asg, we_call, we_op, wa_cons, wa_nil, we_var, we_c, List.getElem?_cons_zero, List.getElem?_cons_succ, ex_some, wo_lenT]
    refine (other_ok ns rest R0 S (k + 3) rooms.length 10 go (plgo.mono (by omega) (by omega)) (by omega) (by omega) q4 (by omega) (by omega)).mono ?_
    rintro v1 S6 ⟨R1, T1, rfl, q6, hv1⟩
    simp only [wo_tup, List.length_cons, List.length_nil, Nat.reduceAdd]
    refine ⟨by decide, ?_⟩
    refine (other_ok ns rest (R0 ++ T1) S6 (k + 3 + 130) 8 10 te (plte.mono (by omega) (by omega)) (by omega) (by omega) q6 (by omega) (by omega)).mono ?_
    rintro v2 S7 ⟨R2, T2, rfl, q7, hv2⟩
    simp only [wo_lst, wo_subI, List.length_cons, List.length_nil, Nat.reduceAdd]
    refine ⟨by decide, by decide, ?_⟩
    obtain ⟨ex, hlen, hmore⟩ := q7.more
    have q8 := hmore [.lst [.tup [v1, te], .tup [go, v2], .non]]
    have hl8 : lstOf (S7 ++ [.lst [.tup [v1, te], .tup [go, v2], .non]]) S7.length = some [.tup [v1, te], .tup [go, v2], .non] := by rw [hlen]; exact pn_lstG q8.pn get_r0
    obtain ⟨z, hz, hz2⟩ := atI_in [D.tup [v1, te], D.tup [go, v2], D.non] (w - 6) (by omega) (by simp only [List.length_cons, List.length_nil]; omega)
    simp only [wo_ixL, hl8, ex_some1, hz, wg_name, List.set_cons_zero, List.set_cons_succ]
    refine ⟨by first | rfl | trivial, z, _, T1 ++ T2 ++ ex ++ [.lst [.tup [v1, te], .tup [go, v2], .non]], rfl, by simp only [List.append_assoc], q8.mono (by omega), ?_⟩
    simp only [List.mem_cons, List.not_mem_nil, or_false] at hz2
    rcases hz2 with rfl | rfl | rfl
    · refine (ok_tup (hv1.app.app.app) (xs := [v1, te]) (fun x hx => ?_) (by simp)).mono (by omega) (by simp only [List.length_cons, List.length_nil]; omega)
      simp only [List.mem_cons, List.not_mem_nil, or_false] at hx
      rcases hx with rfl | rfl
      · exact .inr rfl
      · exact .inl (plte.mono (by omega) (by omega))
    · refine (ok_tup (hv2.app.app) (xs := [go, v2]) (fun x hx => ?_) (by simp)).mono (by omega) (by simp only [List.length_cons, List.length_nil]; omega)
      simp only [List.mem_cons, List.not_mem_nil, or_false] at hx
      rcases hx with rfl | rfl
      · exact .inl (plgo.mono (by omega) (by omega))
      · exact .inr rfl
    · exact .inl ((Pl.non).of.mono (by omega) (by omega))
  rintro l S6 ⟨v, R, T, rfl, rfl, q6, hv⟩
  refine ws_cut (fun l S6 => ∃ v R T, l = [some (.ref 1), some (.tup [.int asks, .tup rooms]), some (.int w), some (.int asks), some (.tup rooms), some (.int a), some (.int b), some go, some te, none, none, some v] ∧ R = R0 ++ T ∧ Kp ns rest (k + 400) S6 R ∧ OkR R 122 3000 v) ?_ ?_
  · simp only [ws_if, wt_e, we_op, we_var, we_c, List.getElem?_cons_zero, List.getElem?_cons_succ, ex_some, wo_eqI, ex_bl]
    by_cases w8 : w = 8
    · rw [decide_eq_true w8, if_pos rfl]
      simp only [ws_asg, we_call, we_op, wa_cons, wa_nil, we_var, we_c, List.getElem?_cons_zero, List.getElem?_cons_succ, ex_some, wo_tup, wo_lst, List.length_cons, List.length_nil, Nat.reduceAdd]
      refine ⟨by decide, by decide, by decide, by decide, ?_⟩
      obtain ⟨ex, hlen, hmore⟩ := q6.more
      have q7 := hmore [.lst [go, te]]
      refine (other_ok ns rest (R0 ++ T ++ ex ++ [.lst [go, te]]) _ (k + 264) 2 27 (.tup [go, te]) (plpair.mono (by omega) (by omega)) (by omega) (by omega) q7 (by omega) (by omega)).mono ?_
      rintro v2 S8 ⟨R2, T2, rfl, q8, hv2⟩
      obtain ⟨L, hL⟩ : ∃ L, L = [D.ref S6.length, .tup [go], .tup [go, te, .non], v2] := ⟨_, rfl⟩
      rw [← hL]
      refine ⟨by decide, ?_⟩
      obtain ⟨ex2, hlen2, hmore2⟩ := q8.more
      have q9 := hmore2 [.lst L]
      refine (take_pn ns _ _ (k + 264 + 130) 4 q9.pn (by omega) (by decide) (by decide)).mono ?_
      rintro u S9 ⟨⟨e, rfl, e0, e1⟩, p9⟩
      have hl9 : lstOf S9 S8.length = some L := by rw [hlen2]; exact pn_lstG p9 get_r0
      obtain ⟨z, hz, hz2⟩ := atI_in L e e0 (by rw [hL]; simp only [List.length_cons, List.length_nil]; omega)
      simp only [wo_ixL, hl9, ex_some1, hz, wg_name, List.set_cons_zero, List.set_cons_succ]
      refine ⟨by first | rfl | trivial, z, _, T ++ ex ++ [.lst [go, te]] ++ T2 ++ ex2 ++ [.lst L], rfl, by simp only [List.append_assoc], ⟨p9.mono (by omega), q9.ex⟩, ?_⟩
      rw [hL] at hz2
      simp only [List.mem_cons, List.not_mem_nil, or_false] at hz2
      have tu : ∀ ys : List D, (∀ y ∈ ys, y = go ∨ y = te ∨ y = .non) → ys.length ≤ 10 → ∀ R, OkR R 122 3000 (.tup ys) := fun ys hy hyl R =>
        .inl ((Pl.tup (k := 1) (B := 10) (xs := ys) (fun y h => by
          rcases hy y h with rfl | rfl | rfl
          · exact plgo
          · exact plte
          · exact Pl.non) (by omega)).of.mono (by omega) (Nat.le_trans (Nat.add_le_add_right (Nat.mul_le_mul_left (10 + 2) hyl) 3) (by decide)))
      rcases hz2 with rfl | rfl | rfl | rfl
      · rw [hlen]
        have := (OfR.lst (R := R0 ++ T ++ ex ++ [.lst [go, te]]) (k := 1) (B := 10) (xs := [go, te]) (j := (R0 ++ T ++ ex).length) get_r0 (fun x hx => by
          simp only [List.mem_cons, List.not_mem_nil, or_false] at hx
          rcases hx with rfl | rfl
          · exact plgo.of
          · exact plte.of)).mono (k' := 122) (B' := 3000) (by omega) (by simp only [List.length_cons, List.length_nil]; omega)
        exact .inl this.app.app.app
      · exact tu _ (fun y hy => by simp only [List.mem_cons, List.not_mem_nil, or_false] at hy; exact .inl hy) (by simp) _
      · exact tu _ (fun y hy => by simp only [List.mem_cons, List.not_mem_nil, or_false] at hy; exact hy) (by simp) _
      · exact (hv2.app.app).mono (by omega) (by omega)
    · rw [decide_eq_false w8, if_neg Bool.false_ne_true, ws_next]
      exact ⟨by first | rfl | trivial, v, _, T, rfl, rfl, q6.mono (by omega), hv⟩
  rintro l S7 ⟨v, R, T, rfl, rfl, q7, hv⟩
  simp only [ws_ret, we_call, we_op, wa_cons, wa_nil, we_var, we_c, List.getElem?_cons_zero, List.getElem?_cons_succ, ex_some, wo_ixT, hroom, ex_some1]
  refine (put_ok S7 cs b v (by omega)).mono ?_
  rintro r S8 ⟨rfl, ys, rfl, hyl, hy⟩
  refine (put_ok _ rooms a (.tup ys) (by omega)).mono ?_
  rintro r S8 ⟨rfl, zs, rfl, hzl, hz⟩
  simp only [wo_tup, List.length_cons, List.length_nil, Nat.reduceAdd]
  have hys : OkR (R0 ++ T) 123 27021 (.tup ys) := (ok_to (N := 9) (ok_tup hv (fun y h => (hy y h).elim (fun h => .inl ((pl_cell (hcs y h) (by omega) (by decide)).mono (by omega) (by omega))) .inr) (by omega)) (by omega)).mono (by omega) (by omega)
  exact ⟨by decide, hQ _ _ _ _ T rfl (q7.mono (by omega)) ((m.putr (by omega) (by omega) hys hzl hz).mono (by omega) (by omega))⟩
end
end M
set_option Elab.async false
set_option maxHeartbeats 4000000
set_option maxRecDepth 100000
namespace M
open PySem L3 G
section
variable {ns : List Int} {rest R0 S : Sto} {k : Int} {rooms : List D} {asks : Nat} {many : Int}
theorem bent_ok (m : Mc rooms asks many) (h : Kp ns rest k S R0) (hk : 0 ≤ k) (hk2 : k < 500000000) :
    Wo (m_law_bent [.ref 1, .tup [.int asks, .tup rooms]] S) fun v S' => ∃ R T, R = R0 ++ T ∧ Kp ns rest (k + 600) S' R ∧ OkR R 130 16000000 v := by
  have sz := sizeBig
  have rl := m.rl
  obtain ⟨a1, a2, hmany, m1, m2, hall⟩ := id m
  unfold m_law_bent b_law_bent
  simp only [wo_run, List.map_cons, List.map_nil, List.length_cons, List.length_nil, Nat.reduceAdd, Nat.reduceSub, List.replicate, List.cons_append, List.nil_append]
  refine ws_cut (fun l S1 => ∃ w : Int, l = [some (.ref 1), some (.tup [.int asks, .tup rooms]), some (.int w), none, none, none, none, none, none, none, none, none] ∧ (0 ≤ w ∧ w < 9) ∧ Kp ns rest (k + 1) S1 R0) ?_ ?_
  · simp only [wo_run, ws_seq, ws_if, wt_e, we_op, we_un, we_var, we_c, ws_asg, ws_ret, ws_drop, ws_next, ws_break, ws_cont, wg_name, wg_sub, wg_tup, wg_nil, wg_cons, we_call, we_methL, wa_cons, wa_nil, wt_and, wt_or, wt_not, we_and, we_or, we_not, we_if, wo_I0, wo_I, wo_plus, wo_ixT, wo_ixL, wo_lenT, wo_lenL, wo_abs, wo_intB, wo_tup, wo_lst, wo_tupleL, wo_eqI, wo_eqB, wo_neS, wo_is, wo_isnot, List.map_cons, List.map_nil, List.length_cons, List.length_nil, Nat.reduceAdd, Nat.reduceSub, List.replicate, List.cons_append, List.nil_append, List.getElem?_cons_zero, List.getElem?_cons_succ, List.set_cons_zero, List.set_cons_succ, ex_some, ex_some1, ex_bl, ex_int, st_0, st_1, st_w1, st_w2, at3_0, at3_1, at3_2, at2_0, at2_1, st_push, st_len, st_2, lstOf_last]
    refine (take_pn ns _ _ k 9 h.pn (by omega) (by decide) (by decide)).mono ?_
    rintro v S' ⟨⟨d, rfl, q1, q2⟩, p⟩
    exact ⟨by first | rfl | trivial, d, rfl, ⟨q1, q2⟩, p, h.ex⟩
  rintro l S1 ⟨w, rfl, ⟨w0, w1⟩, q1⟩
  refine ws_cut (fun l S2 => l = [some (.ref 1), some (.tup [.int asks, .tup rooms]), some (.int w), some (.int asks), some (.tup rooms), none, none, none, none, none, none, none] ∧ S2 = S1) (by simp only [wo_run, ws_seq, ws_if, wt_e, we_op, we_un, we_var, we_c, ws_asg, ws_ret, ws_drop, ws_next, ws_break, ws_cont, wg_name, wg_sub, wg_tup, wg_nil, wg_cons, we_call, we_methL, wa_cons, wa_nil, wt_and, wt_or, wt_not, we_and, we_or, we_not, we_if, wo_I0, wo_I, wo_plus, wo_ixT, wo_ixL, wo_lenT, wo_lenL, wo_abs, wo_intB, wo_tup, wo_lst, wo_tupleL, wo_eqI, wo_eqB, wo_neS, wo_is, wo_isnot, List.map_cons, List.map_nil, List.length_cons, List.length_nil, Nat.reduceAdd, Nat.reduceSub, List.replicate, List.cons_append, List.nil_append, List.getElem?_cons_zero, List.getElem?_cons_succ, List.set_cons_zero, List.set_cons_succ, ex_some, ex_some1, ex_bl, ex_int, st_0, st_1, st_w1, st_w2, at3_0, at3_1, at3_2, at2_0, at2_1, st_push, st_len, st_2, lstOf_last, and_self]) ?_
  rintro l S2 ⟨rfl, rfl⟩
  refine ws_cut (fun l S1 => ∃ a : Int, l = [some (.ref 1), some (.tup [.int asks, .tup rooms]), some (.int w), some (.int asks), some (.tup rooms), some (.int a), none, none, none, none, none, none] ∧ (0 ≤ a ∧ a < rooms.length) ∧ Kp ns rest (k + 2) S1 R0) ?_ ?_
  · simp only [wo_run, ws_seq, ws_if, wt_e, we_op, we_un, we_var, we_c, ws_asg, ws_ret, ws_drop, ws_next, ws_break, ws_cont, wg_name, wg_sub, wg_tup, wg_nil, wg_cons, we_call, we_methL, wa_cons, wa_nil, wt_and, wt_or, wt_not, we_and, we_or, we_not, we_if, wo_I0, wo_I, wo_plus, wo_ixT, wo_ixL, wo_lenT, wo_lenL, wo_abs, wo_intB, wo_tup, wo_lst, wo_tupleL, wo_eqI, wo_eqB, wo_neS, wo_is, wo_isnot, List.map_cons, List.map_nil, List.length_cons, List.length_nil, Nat.reduceAdd, Nat.reduceSub, List.replicate, List.cons_append, List.nil_append, List.getElem?_cons_zero, List.getElem?_cons_succ, List.set_cons_zero, List.set_cons_succ, ex_some, ex_some1, ex_bl, ex_int, st_0, st_1, st_w1, st_w2, at3_0, at3_1, at3_2, at2_0, at2_1, st_push, st_len, st_2, lstOf_last]
    refine (take_pn ns _ _ (k + 1) rooms.length q1.pn (by omega) (by omega) (by omega)).mono ?_
    rintro v S' ⟨⟨d, rfl, q1', q2⟩, p⟩
    exact ⟨by first | rfl | trivial, d, rfl, ⟨q1', q2⟩, p.mono (by omega), h.ex⟩
  rintro l S3 ⟨a, rfl, ⟨at0, at1⟩, q3⟩
  refine ws_cut (fun l S1 => ∃ b : Int, l = [some (.ref 1), some (.tup [.int asks, .tup rooms]), some (.int w), some (.int asks), some (.tup rooms), some (.int a), some (.int b), none, none, none, none, none] ∧ (0 ≤ b ∧ b < asks) ∧ Kp ns rest (k + 3) S1 R0) ?_ ?_
  · simp only [wo_run, ws_seq, ws_if, wt_e, we_op, we_un, we_var, we_c, ws_asg, ws_ret, ws_drop, ws_next, ws_break, ws_cont, wg_name, wg_sub, wg_tup, wg_nil, wg_cons, we_call, we_methL, wa_cons, wa_nil, wt_and, wt_or, wt_not, we_and, we_or, we_not, we_if, wo_I0, wo_I, wo_plus, wo_ixT, wo_ixL, wo_lenT, wo_lenL, wo_abs, wo_intB, wo_tup, wo_lst, wo_tupleL, wo_eqI, wo_eqB, wo_neS, wo_is, wo_isnot, List.map_cons, List.map_nil, List.length_cons, List.length_nil, Nat.reduceAdd, Nat.reduceSub, List.replicate, List.cons_append, List.nil_append, List.getElem?_cons_zero, List.getElem?_cons_succ, List.set_cons_zero, List.set_cons_succ, ex_some, ex_some1, ex_bl, ex_int, st_0, st_1, st_w1, st_w2, at3_0, at3_1, at3_2, at2_0, at2_1, st_push, st_len, st_2, lstOf_last]
    refine (take_pn ns _ _ (k + 2) asks q3.pn (by omega) (by omega) (by omega)).mono ?_
    rintro v S' ⟨⟨d, rfl, q1', q2⟩, p⟩
    exact ⟨by first | rfl | trivial, d, rfl, ⟨q1', q2⟩, p.mono (by omega), h.ex⟩
  rintro l S4 ⟨b, rfl, ⟨b0, b1⟩, q4⟩
  obtain ⟨room, hroom, hrm⟩ := atI_in rooms a at0 (by omega)
  have hR := hall room hrm
  have plroom := pl_room hR (by omega) (by omega) (by decide)
  obtain ⟨cs, rfl, hcl, hcs⟩ := hR
  obtain ⟨cell, hcell, hcm⟩ := atI_in cs b b0 (by omega)
  have hC := hcs cell hcm
  have plcell := pl_cell hC (by omega) (by decide)
  obtain ⟨go, te, rfl, hgo, hte⟩ := hC
  have plgo := pl_or hgo (by omega)
  have plte := pl_or hte (by omega)
  refine ws_cut (fun l S5 => l = [some (.ref 1), some (.tup [.int asks, .tup rooms]), some (.int w), some (.int asks), some (.tup rooms), some (.int a), some (.int b), some go, some te, none, none, none] ∧ S5 = S4) (by simp only [wo_run, ws_seq, ws_if, wt_e, we_op, we_un, we_var, we_c, ws_asg, ws_ret, ws_drop, ws_next, ws_break, ws_cont, wg_name, wg_sub, wg_tup, wg_nil, wg_cons, we_call, we_methL, wa_cons, wa_nil, wt_and, wt_or, wt_not, we_and, we_or, we_not, we_if, wo_I0, wo_I, wo_plus, wo_ixT, wo_ixL, wo_lenT, wo_lenL, wo_abs, wo_intB, wo_tup, wo_lst, wo_tupleL, wo_eqI, wo_eqB, wo_neS, wo_is, wo_isnot, List.map_cons, List.map_nil, List.length_cons, List.length_nil, Nat.reduceAdd, Nat.reduceSub, List.replicate, List.cons_append, List.nil_append, List.getElem?_cons_zero, List.getElem?_cons_succ, List.set_cons_zero, List.set_cons_succ, ex_some, ex_some1, ex_bl, ex_int, st_0, st_1, st_w1, st_w2, at3_0, at3_1, at3_2, at2_0, at2_1, st_push, st_len, st_2, lstOf_last, hroom, hcell, and_self]) ?_
  rintro l S5 ⟨rfl, rfl⟩
  have sh : ∀ {K B : Nat} {R : Sto} {v : D}, OkR R K B v → K ≤ 130 → B ≤ 16000000 → OkR R 130 16000000 v := fun h h1 h2 => h.mono h1 h2
  by_cases w_0 : w = 0
  · refine hit rfl w_0 ?_
    simp only [we_call, wa_cons, wa_nil, we_var, we_c, List.getElem?_cons_zero, List.getElem?_cons_succ, ex_some]
    refine (other_ok ns rest R0 S5 (k + 3) 5 10 (.int asks) (m.pa.mono (by omega) (by omega)) (by omega) (by omega) q4 (by omega) (by omega)).mono ?_
    rintro v S6 ⟨R, T, rfl, q, hv⟩
    refine (put_ok S6 [.int asks, .tup rooms] 0 v (by simp)).mono ?_
    rintro r S7 ⟨rfl, ys, rfl, hyl, hy⟩
    refine ⟨_, T, rfl, q.mono (by omega), sh (ok_to (N := 5) (ok_tup (K := 121) (B := 20000) (hv.mono (by omega) (by omega)) (xs := ys) (fun y h => (hy y h).elim (fun h => .inl ?_) .inr) (by simp only [List.length_cons, List.length_nil] at hyl; omega)) (by simp only [List.length_cons, List.length_nil] at hyl; omega)) (by omega) (by omega)⟩
    simp only [List.mem_cons, List.not_mem_nil, or_false] at h
    rcases h with rfl | rfl
    · exact m.pa.mono (by omega) (by omega)
    · exact m.pr.mono (by omega) (by omega)
  refine skip rfl w_0 ?_
  by_cases w_1 : w = 1
  · refine hit rfl w_1 ?_
    simp only [we_call, wa_cons, wa_nil, we_var, we_c, List.getElem?_cons_zero, List.getElem?_cons_succ, ex_some]
    refine (other_ok ns rest R0 S5 (k + 3) 24 9000 (.tup rooms) (m.pr.mono (by omega) (by omega)) (by omega) (by omega) q4 (by omega) (by omega)).mono ?_
    rintro v S6 ⟨R, T, rfl, q, hv⟩
    refine (put_ok S6 [.int asks, .tup rooms] 1 v (by simp)).mono ?_
    rintro r S7 ⟨rfl, ys, rfl, hyl, hy⟩
    refine ⟨_, T, rfl, q.mono (by omega), sh (ok_to (N := 5) (ok_tup (K := 121) (B := 20000) (hv.mono (by omega) (by omega)) (xs := ys) (fun y h => (hy y h).elim (fun h => .inl ?_) .inr) (by simp only [List.length_cons, List.length_nil] at hyl; omega)) (by simp only [List.length_cons, List.length_nil] at hyl; omega)) (by omega) (by omega)⟩
    simp only [List.mem_cons, List.not_mem_nil, or_false] at h
    rcases h with rfl | rfl
    · exact m.pa.mono (by omega) (by omega)
    · exact m.pr.mono (by omega) (by omega)
  refine skip rfl w_1 ?_
  by_cases w_2 : w = 2
  · refine hit2 rfl w_2 (fun l S6 => ∃ v R T, l = [some (.ref 1), some (.tup [.int asks, .tup rooms]), some (.int w), some (.int asks), some (.tup rooms), some (.int a), some (.int b), some go, some te, some v, none, none] ∧ R = R0 ++ T ∧ Kp ns rest (k + 140) S6 R ∧ OkR R 121 22000 v) ?_ ?_
    · simp only [wo_run, ws_seq, ws_if, wt_e, we_op, we_un, we_var, we_c, ws_asg, ws_ret, ws_drop, ws_next, ws_break, ws_cont, wg_name, wg_sub, wg_tup, wg_nil, wg_cons, we_call, we_methL, wa_cons, wa_nil, wt_and, wt_or, wt_not, we_and, we_or, we_not, we_if, wo_I0, wo_I, wo_plus, wo_ixT, wo_ixL, wo_lenT, wo_lenL, wo_abs, wo_intB, wo_tup, wo_lst, wo_tupleL, wo_eqI, wo_eqB, wo_neS, wo_is, wo_isnot, List.map_cons, List.map_nil, List.length_cons, List.length_nil, Nat.reduceAdd, Nat.reduceSub, List.replicate, List.cons_append, List.nil_append, List.getElem?_cons_zero, List.getElem?_cons_succ, List.set_cons_zero, List.set_cons_succ, ex_some, ex_some1, ex_bl, ex_int, st_0, st_1, st_w1, st_w2, at3_0, at3_1, at3_2, at2_0, at2_1, st_push, st_len, st_2, lstOf_last]
      refine (other_ok ns rest R0 S5 (k + 3) 2 20000 _ (m.pm.mono (by omega) (by omega)) (by omega) (by omega) q4 (by omega) (by omega)).mono ?_
      rintro v S6 ⟨R, T, rfl, q, hv⟩
      exact ⟨by first | rfl | trivial, v, _, T, rfl, rfl, q.mono (by omega), hv.mono (by omega) (by omega)⟩
    rintro l S6 ⟨v, R, T, rfl, rfl, q6, hv⟩
    obtain ⟨ex, hlen, hmore⟩ := q6.more
    have c1 := cut_len [D.int asks, .tup rooms] none (some 1)
    obtain ⟨L, hL⟩ : ∃ L, L = [D.ref ((R0 ++ T ++ ex).length + 2), .tup (cutD [.int asks, .tup rooms] none (some 1)), .tup [.int asks, .tup rooms, .int 0], .tup [.tup rooms, .int asks], v] := ⟨_, rfl⟩
    have q7 := hmore [.lst [.int asks, .tup rooms], .lst L]
    simp only [we_op, we_call, wa_cons, wa_nil, we_var, we_c, List.getElem?_cons_zero, List.getElem?_cons_succ, ex_some, wo_listT, we_slN, ex_tup, ex_int1, wo_plusT, wo_tup, wo_lst, List.length_cons, List.length_nil, Nat.reduceAdd, List.cons_append, List.nil_append]
    refine ⟨by decide, by decide, by decide, by decide, ?_⟩
    have hS : S6 ++ [Ob.lst [.int asks, .tup rooms]] ++ [Ob.lst [D.ref S6.length, .tup (cutD [.int asks, .tup rooms] none (some 1)), .tup [.int asks, .tup rooms, .int 0], .tup [.tup rooms, .int asks], v]] = S6 ++ [.lst [.int asks, .tup rooms], .lst L] := by rw [hL, hlen]; simp
    rw [hS]
    refine (take_pn ns _ _ (k + 140) 5 q7.pn (by omega) (by decide) (by decide)).mono ?_
    rintro u S8 ⟨⟨e, rfl, e0, e1⟩, p8⟩
    have hl8 : lstOf S8 (S6 ++ [Ob.lst [.int asks, .tup rooms]]).length = some L := by
      rw [List.length_append, hlen]
      exact pn_lstG (j := (R0 ++ T ++ ex).length + 1) p8 (by rw [get_more]; rfl)
    obtain ⟨z, hz, hz2⟩ := atI_in L e e0 (by rw [hL]; simp only [List.length_cons, List.length_nil]; omega)
    simp only [wo_ixL, hl8, ex_some1, hz]
    have pls : ∀ x, x = D.int asks ∨ x = .tup rooms ∨ x = .int 0 → Pl 4 9000 x := fun x hx => by
      rcases hx with rfl | rfl | rfl
      · exact m.pa.mono (by omega) (by omega)
      · exact m.pr
      · exact (Pl.small 0 (by omega) (by omega)).mono (by omega) (by omega)
    refine ⟨_, T ++ ex ++ [.lst [.int asks, .tup rooms], .lst L], by simp only [List.append_assoc], ⟨p8.mono (by omega), q7.ex⟩, ?_⟩
    have tu : ∀ ys : List D, (∀ y ∈ ys, y = D.int asks ∨ y = .tup rooms ∨ y = .int 0) → ys.length ≤ 10 → OkR (R0 ++ T ++ ex ++ [.lst [.int asks, .tup rooms], .lst L]) 130 16000000 (.tup ys) := fun ys hy hyl =>
      .inl ((Pl.tup (k := 4) (B := 9000) (xs := ys) (fun y h => pls y (hy y h)) (by omega)).of.mono (by omega) (Nat.le_trans (Nat.add_le_add_right (Nat.mul_le_mul_left (9000 + 2) hyl) 3) (by decide)))
    rw [hL] at hz2
    simp only [List.mem_cons, List.not_mem_nil, or_false] at hz2
    rcases hz2 with rfl | rfl | rfl | rfl | rfl
    · refine .inl ((OfR.lst (k := 4) (B := 9000) (xs := [.int asks, .tup rooms]) (j := (R0 ++ T ++ ex).length) get_r0 (fun x hx => ?_)).mono (by omega) (by simp only [List.length_cons, List.length_nil]; omega))
      simp only [List.mem_cons, List.not_mem_nil, or_false] at hx
      exact (pls x (by rcases hx with rfl | rfl <;> simp)).of
    · refine tu _ (fun y hy => ?_) (by simp only [List.length_cons, List.length_nil] at c1; omega)
      have := cut_mem hy
      simp only [List.mem_cons, List.not_mem_nil, or_false] at this
      rcases this with rfl | rfl <;> simp
    · refine tu _ (fun y hy => ?_) (by simp)
      simp only [List.mem_cons, List.not_mem_nil, or_false] at hy
      exact hy
    · refine tu _ (fun y hy => ?_) (by simp)
      simp only [List.mem_cons, List.not_mem_nil, or_false] at hy
      rcases hy with rfl | rfl <;> simp
    · exact (hv.app.app).mono (by omega) (by omega)
  refine skip rfl w_2 ?_
  by_cases w_3 : w = 3
  · refine hit rfl w_3 ?_
    simp only [we_call, wa_cons, wa_nil, we_var, we_c, List.getElem?_cons_zero, List.getElem?_cons_succ, ex_some]
    refine (row_bent_ok ns rest R0 S5 (k + 3) 3 200 rooms (fun x hx => pl_room (hall x hx) (by omega) (by omega) (by decide)) (by omega) (by omega) q4 (by omega) (by omega)).mono ?_
    rintro v S6 ⟨R, T, rfl, q, hv⟩
    simp only [wo_tup, List.length_cons, List.length_nil, Nat.reduceAdd]
    refine ⟨by decide, _, T, rfl, q.mono (by omega), sh (m.pair (by omega) (by omega) (.inl hv)) (by omega) (by omega)⟩
  refine skip rfl w_3 ?_
  by_cases w_4 : w = 4
  · refine hit rfl w_4 ?_
    obtain ⟨r0, hr0, hr0m⟩ := atI_in rooms 0 (by omega) (by omega)
    simp only [we_call, we_op, wa_cons, wa_nil, we_var, we_c, List.getElem?_cons_zero, List.getElem?_cons_succ, ex_some, wo_ixT, hr0, ex_some1, wo_tup, wo_lst, List.length_cons, List.length_nil, Nat.reduceAdd]
    refine ⟨by decide, by decide, ?_⟩
    obtain ⟨ex, hlen, hmore⟩ := q4.more
    have q5 := hmore [.lst [.int 24, .int 25, .int 23, .int 26]]
    refine (take_pn ns _ _ (k + 3) 4 q5.pn (by omega) (by decide) (by decide)).mono ?_
    rintro u S6 ⟨⟨e, rfl, e0, e1⟩, p6⟩
    obtain ⟨x, hx, hx1, hx2⟩ := pick4d e e0 e1
    have hl6 : lstOf S6 S5.length = some [.int 24, .int 25, .int 23, .int 26] := by rw [hlen]; exact pn_lstG p6 get_r0
    simp only [wo_ixL, hl6, ex_some1, hx, wo_timesT, List.length_nil]
    refine ⟨⟨by omega, by omega, by omega⟩, by decide, ?_⟩
    have hrl : (List.replicate x.toNat [r0]).flatten.length = x.toNat := by rw [L2.len_rep]; simp
    refine ⟨_, ex ++ [.lst [.int 24, .int 25, .int 23, .int 26]], by rw [List.append_assoc], ⟨p6.mono (by omega), q5.ex⟩, ?_⟩
    have hp : Pl 4 9000 (.tup (List.replicate x.toNat [r0]).flatten) := pl_rooms (asks := asks) (m := many) (kn := 8) (fun y hy => by rw [reps_mem hy]; exact hall r0 hr0m) (by omega) (by omega) (by decide) (by omega)
    exact sh (m.pair (by omega) (by omega) (.inl hp.of)) (by omega) (by omega)
  refine skip rfl w_4 ?_
  by_cases w_5 : w = 5
  · refine hit2 rfl w_5 (fun l S6 => ∃ v R T, l = [some (.ref 1), some (.tup [.int asks, .tup rooms]), some (.int w), some (.int asks), some (.tup rooms), some (.int a), some (.int b), some go, some te, none, some v, none] ∧ R = R0 ++ T ∧ Kp ns rest (k + 200) S6 R ∧ OkR R 121 22000 v) ?_ ?_
    · simp only [ws_asg, we_call, we_op, wa_cons, wa_nil, we_var, we_c, List.getElem?_cons_zero, List.getElem?_cons_succ, ex_some, wo_ixT, hroom, ex_some1]
      refine (row_bent_ok ns rest R0 S5 (k + 3) 2 27 cs (fun x hx => pl_cell (hcs x hx) (by omega) (by decide)) (by omega) (by omega) q4 (by omega) (by omega)).mono ?_
      rintro v1 S6 ⟨R1, T1, rfl, q6, hv1⟩
      refine (other_ok ns rest (R0 ++ T1) S6 (k + 3 + 2) 2 200 (.tup cs) (plroom.mono (by omega) (by omega)) (by omega) (by omega) q6 (by omega) (by omega)).mono ?_
      rintro v2 S7 ⟨R2, T2, rfl, q7, hv2⟩
      simp only [wo_lst, List.length_cons, List.length_nil, Nat.reduceAdd]
      refine ⟨by decide, ?_⟩
      obtain ⟨ex, hlen, hmore⟩ := q7.more
      have q8 := hmore [.lst [v1, v2]]
      refine (take_pn ns _ _ (k + 3 + 2 + 130) 2 q8.pn (by omega) (by decide) (by decide)).mono ?_
      rintro u S8 ⟨⟨e, rfl, e0, e1⟩, p8⟩
      have hl8 : lstOf S8 S7.length = some [v1, v2] := by rw [hlen]; exact pn_lstG p8 get_r0
      obtain ⟨z, hz, hz2⟩ := atI_in [v1, v2] e e0 (by simp only [List.length_cons, List.length_nil]; omega)
      simp only [wo_ixL, hl8, ex_some1, hz, wg_name, List.set_cons_zero, List.set_cons_succ]
      refine ⟨by first | rfl | trivial, z, _, T1 ++ T2 ++ ex ++ [.lst [v1, v2]], rfl, by simp only [List.append_assoc], ⟨p8.mono (by omega), q8.ex⟩, ?_⟩
      simp only [List.mem_cons, List.not_mem_nil, or_false] at hz2
      rcases hz2 with rfl | rfl
      · exact .inl ((hv1.app.app.app).mono (by omega) (by omega))
      · exact (hv2.app.app).mono (by omega) (by omega)
    rintro l S6 ⟨v, R, T, rfl, rfl, q6, hv⟩
    simp only [we_call, wa_cons, wa_nil, we_var, we_c, List.getElem?_cons_zero, List.getElem?_cons_succ, ex_some]
    refine (put_ok S6 rooms a v (by omega)).mono ?_
    rintro r S7 ⟨rfl, ys, rfl, hyl, hy⟩
    simp only [wo_tup, List.length_cons, List.length_nil, Nat.reduceAdd]
    exact ⟨by decide, _, T, rfl, q6.mono (by omega), sh (m.putr (by omega) (by omega) hv hyl hy) (by omega) (by omega)⟩
  refine skip rfl w_5 ?_
  exact tail_ok m hroom hcs (by omega) hgo hte (by omega) (by omega) q4 hk hk2 (fun v l S' R T hR hq hv => ⟨R, T, hR, hq, hv⟩)
end
end M
set_option Elab.async false
set_option maxHeartbeats 8000000
set_option maxRecDepth 100000
namespace M
open PySem L3 G
theorem forL_inv {g : GM} {b : SM} {n : Nat} (P : Nat → Lo → Sto → Prop) (xs : List D) (hl : ∀ i l S, P i l S → lstOf S n = some xs)
    (step : ∀ (i : Nat) x l S, xs[i]? = some x → P i l S → Wg (g x l S) fun l1 S1 => Ws b l1 S1 fun f l2 S2 => (f = .nx ∨ f = .ct) ∧ P (i + 1) l2 S2) :
    ∀ (m i : Nat) (l : Lo) (S : Sto), i + m = xs.length → P i l S → Wr (forL g b n (m + 1) i l S) fun f l' S' => f = .nx ∧ P xs.length l' S'
  | 0, i, l, S, hi, h => by
    have e0 : xs[i]? = none := List.getElem?_eq_none_iff.mpr (by omega)
    refine ⟨.nx, l, S, ?_, rfl, by rw [show xs.length = i by omega]; exact h⟩
    unfold forL; rw [hl i l S h]
    show (match xs[i]? with | none => _ | some x => _) = _
    rw [e0]
  | m + 1, i, l, S, hi, h => by
    have hlt : i < xs.length := by omega
    have e0 : xs[i]? = some xs[i] := List.getElem?_eq_getElem hlt
    obtain ⟨l1, S1, e1, f, l2, S2, e2, hf, h2⟩ := step i _ l S e0 h
    obtain ⟨f', l', S', e3, q1, q2⟩ := forL_inv P xs hl step m (i + 1) l2 S2 (by omega) h2
    refine ⟨f', l', S', ?_, q1, q2⟩
    unfold forL; rw [hl i l S h]
    show (match xs[i]? with | none => _ | some x => _) = _
    rw [e0]
    show (g xs[i] l S).bind _ = _
    rw [e1]; show (b l1 S1).bind _ = _; rw [e2]
    rcases hf with rfl | rfl <;> exact e3
theorem sizeBig2 : 16000000 ≤ sizeLine := by decide
theorem st_app {ns : List Int} {a r : Int} {R ex ex2 : Sto} : St ns a r (R ++ ex) ++ ex2 = St ns a r (R ++ (ex ++ ex2)) := by unfold St; simp
theorem right_kp {ns : List Int} {rest R S : Sto} {k : Int} {v : D} (h : Kp ns rest k S R) (hv : OkR R 130 16000000 v) : Wo (m_law_right [v] S) fun x S' => x = .bl true ∧ Kp ns rest k S' R := by
  obtain ⟨a, r, ex, hS, h1, h2, h3⟩ := id h.pn
  have hv' : OkR R 140 16000000 v := hv.mono (by omega) (Nat.le_refl _)
  have ty : tyOk S 5 v = true := by rw [hS]; rcases hv' with ⟨p, _, _, t⟩ | ⟨p, _, _, t⟩ <;> exact t _ _ _ _
  have sh : Shows S v := by
    rcases hv' with ⟨p, hp, s, _⟩ | ⟨p, hp, s, _⟩
    · exact ⟨p, Nat.le_trans hp sizeBig2, fun ex2 => .inl (by rw [hS, st_app]; exact s _ _ _ _)⟩
    · exact ⟨p, Nat.le_trans hp sizeBig2, fun ex2 => .inr (by rw [hS, st_app]; exact s _ _ _ _)⟩
  refine (right_is S v ty sh).mono ?_
  rintro x S' ⟨rfl, ex, rfl⟩
  exact ⟨rfl, h.apps⟩
theorem Pl.ty {k B : Nat} {d : D} (h : Pl k B d) (S : Sto) : tyOk S 5 d = true := by obtain ⟨p, _, _, _, t⟩ := h; exact t S
theorem or_below {m : Int} {g : D} (h : Or0 m g) : (isNon g || below g m) = true := by
  rcases h with rfl | ⟨i, rfl, h0, h1⟩
  · rfl
  · show (false || decide (0 ≤ i ∧ i < m)) = true
    rw [decide_eq_true ⟨h0, h1⟩]; rfl
theorem cell_true {m : Int} {c : D} (h : IsCell m 8 c) : cellB c m = true := by
  obtain ⟨g, s, rfl, hg, hs⟩ := h
  show ((isNon g || below g m) && (isNon s || below s 8)) = true
  rw [or_below hg, or_below hs]; rfl
theorem room_true {a : Nat} {m : Int} {r : D} (h : IsRoom a m 8 r) : roomB r a m = true := by
  obtain ⟨cs, rfl, hl, hc⟩ := h
  rw [roomB_tup, decide_eq_true (by omega), List.all_eq_true.mpr fun c h => cell_true (hc c h)]; rfl
theorem mach_true {rooms : List D} {a : Nat} {m : Int} (a1 : 1 ≤ a) (a2 : a ≤ 4) (hm : (rooms.length : Int) = m) (m1 : 1 ≤ m) (m2 : m ≤ 24) (h : ∀ r ∈ rooms, IsRoom a m 8 r) : machB (.tup [.int a, .tup rooms]) = true := by
  rw [machB_mk, decide_eq_true (by omega), decide_eq_true (by omega), List.all_eq_true.mpr fun r hr => by rw [hm]; exact room_true (h r hr)]; rfl
theorem pl_mach {rooms : List D} {a : Nat} {m : Int} (a2 : a ≤ 6) (hm : (rooms.length : Int) = m) (m2 : m ≤ 24) (h : ∀ r ∈ rooms, IsRoom a m 8 r) : Pl 5 20000 (.tup [.int a, .tup rooms]) :=
  (Pl.tup (k := 4) (B := 9000) (xs := [.int a, .tup rooms]) (fun x hx => by
    simp only [List.mem_cons, List.not_mem_nil, or_false] at hx
    rcases hx with rfl | rfl
    · exact (Pl.small _ (by omega) (by omega)).mono (by omega) (by omega)
    · exact pl_rooms h a2 (by omega) (by decide) (by omega)) (by simp)).mono (Nat.le_refl _) (by simp only [List.length_cons, List.length_nil]; omega)
def wide (n : Int) (d : D) : D := match d with
  | .tup cs => .tup (cutD (List.replicate 6 cs).flatten none (some n))
  | _ => .non
theorem cut_n {xs : List D} {n : Nat} (h : n ≤ xs.length) : (cutD xs none (some (n : Int))).length = n := by
  unfold cutD HT.sIx
  simp only [List.length_take, List.length_drop]
  split <;> omega
theorem wide_room {a n : Nat} {m : Int} {d : D} (h : IsRoom a m 8 d) (a1 : 1 ≤ a) (hn : n ≤ 6) : IsRoom n m 8 (wide n d) := by
  obtain ⟨cs, rfl, hl, hc⟩ := h
  refine ⟨_, rfl, cut_n (by rw [L2.len_rep]; omega), fun c h => ?_⟩
  obtain ⟨l, h1, h2⟩ := List.mem_flatten.mp (cut_mem h)
  rw [List.eq_of_mem_replicate h1] at h2
  exact hc c h2
end M
set_option Elab.async false
set_option maxHeartbeats 8000000
set_option maxRecDepth 100000
namespace M
open PySem L3 G
theorem pick2 (i : Nat) (h1 : i < 2) : ∃ x : Int, L2.atI [D.int 4, D.int 24] (0 + (i : Int)) = some (.int x) ∧ 0 < x ∧ x ≤ 24 := by
  have : i = 0 ∨ i = 1 := by omega
  rcases this with rfl | rfl <;> exact ⟨_, rfl, by decide, by decide⟩
theorem wo_timesN {xs : List D} {k : Int} {S : Sto} {Q : D → Sto → Prop} (h : 0 < xs.length) (hz : 0 ≤ k ∧ k < 2 ^ 31 ∧ xs.length * k.toNat ≤ sizeLine) : Wo (dTimes (.tup xs) (.int k) S) Q = Q (.tup (List.replicate k.toNat xs).flatten) S := by
  cases xs with
  | nil => cases h
  | cons x xs => rw [wo_timesT]; exact propext ⟨fun h => h.2, fun h => ⟨hz, h⟩⟩
theorem law_true (ns : List Int) (hl : ns.length ≤ 63) : ∃ S', m_law [.ref 0] [.flst (ns.map D.int)] = some (.bl true, S') := by
  have sz := sizeBig
  have key : Wo (m_law [.ref 0] [.flst (ns.map D.int)]) fun v _ => v = .bl true := by
    unfold m_law b_law
    simp only [wo_run, List.map_cons, List.map_nil, List.length_cons, List.length_nil, Nat.reduceAdd, Nat.reduceSub, List.replicate, List.cons_append, List.nil_append]
    refine ws_cut (fun l S1 => l = [some (.ref 0), some (.ref 1), none, none, none, none, none, none, none] ∧ S1 = St ns 0 0 []) ?_ ?_
    · simp only [wo_run, ws_seq, ws_if, wt_e, we_op, we_un, we_var, we_c, ws_asg, ws_ret, ws_drop, ws_next, ws_break, ws_cont, wg_name, wg_sub, wg_tup, wg_nil, wg_cons, we_call, we_methL, wa_cons, wa_nil, wt_and, wt_or, wt_not, we_and, we_or, we_not, we_if, wo_I0, wo_I, wo_plus, wo_ixT, wo_ixL, wo_lenT, wo_lenL, wo_abs, wo_intB, wo_tup, wo_lst, wo_tupleL, wo_eqI, wo_eqB, wo_neS, wo_is, wo_isnot, List.map_cons, List.map_nil, List.length_cons, List.length_nil, Nat.reduceAdd, Nat.reduceSub, List.replicate, List.cons_append, List.nil_append, List.getElem?_cons_zero, List.getElem?_cons_succ, List.set_cons_zero, List.set_cons_succ, ex_some, ex_some1, ex_bl, ex_int, st_0, st_1, st_w1, st_w2, at3_0, at3_1, at3_2, at2_0, at2_1, st_push, st_len, st_2, lstOf_last]
      exact ⟨by decide, by first | rfl | trivial, by first | rfl | trivial, by first | rfl | trivial⟩
    rintro l S1 ⟨rfl, rfl⟩
    refine ws_cut (fun l S1 => ∃ x2 x3 x4 x5 x6, l = [some (.ref 0), some (.ref 1), x2, x3, x4, x5, x6, none, none] ∧ Pn ns [] 10000 S1) ?_ ?_
    · rw [ws_forR]
      simp only [wa_cons, wa_nil, we_c, ex_int]
      refine ⟨by decide, ?_⟩
      refine (forX_inv (fun i l S1 => ∃ x2 x3 x4 x5 x6, l = [some (.ref 0), some (.ref 1), x2, x3, x4, x5, x6, none, none] ∧ Pn ns [] (5000 * i) S1) (rngD 0 (2 : Int).toNat) 0 _ _ ⟨_, _, _, _, _, rfl, ⟨0, 0, [], rfl, by omega, by simp, by omega⟩⟩ ?_).mono ?_
      · rintro i x l S2 hx ⟨x2, x3, x4, x5, x6, rfl, p⟩
        obtain ⟨hi, rfl⟩ := rngD_get hx
        have hi : i < 2 := hi
        rw [Nat.zero_add] at p ⊢
        obtain ⟨k, hk⟩ : ∃ k : Int, 5000 * (i : Int) = k := ⟨_, rfl⟩
        have hk0 : 0 ≤ k ∧ k ≤ 6000 := by omega
        have hk5 : 5000 * ((i + 1 : Nat) : Int) = k + 5000 := by omega
        rw [hk] at p
        rw [hk5]
        simp only [wg_name, List.set_cons_zero, List.set_cons_succ]
        refine ws_cut (fun l S1 => ∃ (rooms : List D) (asks : Nat) (many : Int), l = [some (.ref 0), some (.ref 1), some (.int (0 + (i : Int))), some (.tup [.int asks, .tup rooms]), x4, x5, x6, none, none] ∧ Mc rooms asks many ∧ Pn ns [] (k + 1000) S1) ?_ ?_
        · simp only [wo_run, ws_seq, ws_if, wt_e, we_op, we_un, we_var, we_c, ws_asg, ws_ret, ws_drop, ws_next, ws_break, ws_cont, wg_name, wg_sub, wg_tup, wg_nil, wg_cons, we_call, we_methL, wa_cons, wa_nil, wt_and, wt_or, wt_not, we_and, we_or, we_not, we_if, wo_I0, wo_I, wo_plus, wo_ixT, wo_ixL, wo_lenT, wo_lenL, wo_abs, wo_intB, wo_tup, wo_lst, wo_tupleL, wo_eqI, wo_eqB, wo_neS, wo_is, wo_isnot, List.map_cons, List.map_nil, List.length_cons, List.length_nil, Nat.reduceAdd, Nat.reduceSub, List.replicate, List.cons_append, List.nil_append, List.getElem?_cons_zero, List.getElem?_cons_succ, List.set_cons_zero, List.set_cons_succ, ex_some, ex_some1, ex_bl, ex_int, st_0, st_1, st_w1, st_w2, at3_0, at3_1, at3_2, at2_0, at2_1, st_push, st_len, st_2, lstOf_last]
          refine ⟨by decide, ?_⟩
          obtain ⟨x, hx, hx1, hx2⟩ := pick2 i hi
          simp only [lstOf_last, ex_some1, hx]
          refine (machine_ok ns _ _ k x (pn_apps p) (by omega) (by omega) hx1 hx2).mono ?_
          rintro v S3 ⟨⟨many, asks, ⟨rooms, rfl, a1, a2, a3, a4, a5⟩, hm⟩, p2⟩
          exact ⟨by first | rfl | trivial, rooms, asks, many, rfl, ⟨a1, a2, a3, a4, by omega, a5⟩, p2⟩
        generalize some (D.int (0 + (i : Int))) = x2
        rintro l S3 ⟨rooms, asks, many, rfl, m, p3⟩
        obtain ⟨a1, a2, hmany, m1, m2, hall⟩ := id m
        have rl := m.rl
        refine ws_cut (fun l S1 => l = [some (.ref 0), some (.ref 1), x2, some (.tup [.int asks, .tup rooms]), x4, x5, x6, none, none] ∧ Pn ns [] (k + 1000) S1) ?_ ?_
        · simp only [wo_run, ws_seq, ws_if, wt_e, we_op, we_un, we_var, we_c, ws_asg, ws_ret, ws_drop, ws_next, ws_break, ws_cont, wg_name, wg_sub, wg_tup, wg_nil, wg_cons, we_call, we_methL, wa_cons, wa_nil, wt_and, wt_or, wt_not, we_and, we_or, we_not, we_if, wo_I0, wo_I, wo_plus, wo_ixT, wo_ixL, wo_lenT, wo_lenL, wo_abs, wo_intB, wo_tup, wo_lst, wo_tupleL, wo_eqI, wo_eqB, wo_neS, wo_is, wo_isnot, List.map_cons, List.map_nil, List.length_cons, List.length_nil, Nat.reduceAdd, Nat.reduceSub, List.replicate, List.cons_append, List.nil_append, List.getElem?_cons_zero, List.getElem?_cons_succ, List.set_cons_zero, List.set_cons_succ, ex_some, ex_some1, ex_bl, ex_int, st_0, st_1, st_w1, st_w2, at3_0, at3_1, at3_2, at2_0, at2_1, st_push, st_len, st_2, lstOf_last]
          refine (mach_is S3 _ (m.pm.ty S3) (looks_of (m.pm.ty S3))).mono ?_
          rintro v S4 ⟨rfl, ex, rfl⟩
          rw [mach_true a1 a2 hmany m1 m2 hall]
          simp only [wo_run, ws_seq, ws_if, wt_e, we_op, we_un, we_var, we_c, ws_asg, ws_ret, ws_drop, ws_next, ws_break, ws_cont, wg_name, wg_sub, wg_tup, wg_nil, wg_cons, we_call, we_methL, wa_cons, wa_nil, wt_and, wt_or, wt_not, we_and, we_or, we_not, we_if, wo_I0, wo_I, wo_plus, wo_ixT, wo_ixL, wo_lenT, wo_lenL, wo_abs, wo_intB, wo_tup, wo_lst, wo_tupleL, wo_eqI, wo_eqB, wo_neS, wo_is, wo_isnot, List.map_cons, List.map_nil, List.length_cons, List.length_nil, Nat.reduceAdd, Nat.reduceSub, List.replicate, List.cons_append, List.nil_append, List.getElem?_cons_zero, List.getElem?_cons_succ, List.set_cons_zero, List.set_cons_succ, ex_some, ex_some1, ex_bl, ex_int, st_0, st_1, st_w1, st_w2, at3_0, at3_1, at3_2, at2_0, at2_1, st_push, st_len, st_2, lstOf_last, wo_isNotB, show isBl true (.bl true) = true from rfl, Bool.not_true, Bool.false_eq_true, if_false]
          exact ⟨by first | rfl | trivial, by first | rfl | trivial, pn_apps p3⟩
        rintro l S4 ⟨rfl, p4⟩
        refine ws_cut (fun l S1 => ∃ x4 x5, l = [some (.ref 0), some (.ref 1), x2, some (.tup [.int asks, .tup rooms]), x4, x5, x6, none, none] ∧ Pn ns [] (k + 1000) S1) ?_ ?_
        · rw [ws_forT]
          simp only [we_call, wa_cons, wa_nil, we_c, wo_tup, List.length_cons, List.length_nil, Nat.reduceAdd]
          refine ⟨by decide, ?_⟩
          refine (forX_inv (fun i l S1 => ∃ x4 x5, l = [some (.ref 0), some (.ref 1), x2, some (.tup [.int asks, .tup rooms]), x4, x5, x6, none, none] ∧ Pn ns [] (k + 1000) S1) [D.int 4, D.int 5, D.int 6] 0 _ _ ⟨_, _, rfl, p4⟩ ?_).mono ?_
          · rintro j x l S5 hx ⟨x4, x5, rfl, p5⟩
            obtain ⟨n, rfl, n4, n6⟩ : ∃ n : Nat, x = .int n ∧ 4 ≤ n ∧ n ≤ 6 := by
              have := List.mem_of_getElem? hx
              simp only [List.mem_cons, List.not_mem_nil, or_false] at this
              rcases this with rfl | rfl | rfl
              · exact ⟨4, rfl, by omega, by omega⟩
              · exact ⟨5, rfl, by omega, by omega⟩
              · exact ⟨6, rfl, by omega, by omega⟩
            clear hx
            simp only [wg_name, List.set_cons_zero, List.set_cons_succ]
            have hw : ∀ r ∈ rooms.map (wide n), IsRoom n many 8 r := fun r hr => by
              obtain ⟨d, hd, rfl⟩ := List.mem_map.mp hr
              exact wide_room (hall d hd) a1 n6
            have hwl : ((rooms.map (wide n)).length : Int) = many := by rw [List.length_map]; exact hmany
            have plw := pl_mach n6 hwl m2 hw
            refine ws_cut (fun l S1 => l = [some (.ref 0), some (.ref 1), x2, some (.tup [.int asks, .tup rooms]), some (.int n), some (.tup (rooms.map (wide n))), x6, none, none] ∧ Pn ns [] (k + 1000) S1) ?_ ?_
            · simp only [ws_asg, we_call, wa_cons, wa_nil]
              refine we_compT ?_
              simp only [we_op, we_var, we_c, List.getElem?_cons_zero, List.getElem?_cons_succ, ex_some, wo_ixT, at2_1, ex_some1]
              refine ⟨rooms, rfl, rooms.map (wide n), ?_⟩
              obtain ⟨S6, e6, ex, rfl⟩ := comp_map (g := gName3 0) (e := eSl (eOp dTimes (eVar 0) (eC (.int 6))) (oNone) (oSome (eVar 1))) (S := S5) (wide n) (fun l => ∃ y, l = [y, some (.int n)]) rooms (by
                rintro x hx l ex ⟨y, rfl⟩
                obtain ⟨cs, rfl, hcl, hc⟩ := hall x hx
                simp only [wo_run, ws_seq, ws_if, wt_e, we_op, we_un, we_var, we_c, ws_asg, ws_ret, ws_drop, ws_next, ws_break, ws_cont, wg_name, wg_sub, wg_tup, wg_nil, wg_cons, we_call, we_methL, wa_cons, wa_nil, wt_and, wt_or, wt_not, we_and, we_or, we_not, we_if, wo_I0, wo_I, wo_plus, wo_ixT, wo_ixL, wo_lenT, wo_lenL, wo_abs, wo_intB, wo_tup, wo_lst, wo_tupleL, wo_eqI, wo_eqB, wo_neS, wo_is, wo_isnot, List.map_cons, List.map_nil, List.length_cons, List.length_nil, Nat.reduceAdd, Nat.reduceSub, List.replicate, List.cons_append, List.nil_append, List.getElem?_cons_zero, List.getElem?_cons_succ, List.set_cons_zero, List.set_cons_succ, ex_some, ex_some1, ex_bl, ex_int, st_0, st_1, st_w1, st_w2, at3_0, at3_1, at3_2, at2_0, at2_1, st_push, st_len, st_2, lstOf_last, we_slN, List.set_cons_zero]
                rw [wo_timesN (by omega) ⟨by decide, by decide, by simp only [Int.reduceToNat]; omega⟩]
                simp only [ex_tup, ex_int1]
                exact ⟨by first | rfl | trivial, ⟨_, rfl⟩, ex, rfl⟩) [none, some (.int n)] ⟨_, rfl⟩
              refine ⟨_, e6, by rw [List.length_map]; omega, ?_⟩
              simp only [wo_tupleL, lstOf_last, ex_some1, wg_name, List.set_cons_zero, List.set_cons_succ]
              exact ⟨by first | rfl | trivial, by first | rfl | trivial, pn_apps (pn_apps p5)⟩
            rintro l S6 ⟨rfl, p6⟩
            simp only [wo_run, ws_seq, ws_if, wt_e, we_op, we_un, we_var, we_c, ws_asg, ws_ret, ws_drop, ws_next, ws_break, ws_cont, wg_name, wg_sub, wg_tup, wg_nil, wg_cons, we_call, we_methL, wa_cons, wa_nil, wt_and, wt_or, wt_not, we_and, we_or, we_not, we_if, wo_I0, wo_I, wo_plus, wo_ixT, wo_ixL, wo_lenT, wo_lenL, wo_abs, wo_intB, wo_tup, wo_lst, wo_tupleL, wo_eqI, wo_eqB, wo_neS, wo_is, wo_isnot, List.map_cons, List.map_nil, List.length_cons, List.length_nil, Nat.reduceAdd, Nat.reduceSub, List.replicate, List.cons_append, List.nil_append, List.getElem?_cons_zero, List.getElem?_cons_succ, List.set_cons_zero, List.set_cons_succ, ex_some, ex_some1, ex_bl, ex_int, st_0, st_1, st_w1, st_w2, at3_0, at3_1, at3_2, at2_0, at2_1, st_push, st_len, st_2, lstOf_last]
            refine ⟨by decide, ?_⟩
            refine (right_kp (Kp.of p6) (.inl (plw.of.mono (by omega) (by omega)))).mono ?_
            rintro v S7 ⟨rfl, q7⟩
            simp only [wo_run, ws_seq, ws_if, wt_e, we_op, we_un, we_var, we_c, ws_asg, ws_ret, ws_drop, ws_next, ws_break, ws_cont, wg_name, wg_sub, wg_tup, wg_nil, wg_cons, we_call, we_methL, wa_cons, wa_nil, wt_and, wt_or, wt_not, we_and, we_or, we_not, we_if, wo_I0, wo_I, wo_plus, wo_ixT, wo_ixL, wo_lenT, wo_lenL, wo_abs, wo_intB, wo_tup, wo_lst, wo_tupleL, wo_eqI, wo_eqB, wo_neS, wo_is, wo_isnot, List.map_cons, List.map_nil, List.length_cons, List.length_nil, Nat.reduceAdd, Nat.reduceSub, List.replicate, List.cons_append, List.nil_append, List.getElem?_cons_zero, List.getElem?_cons_succ, List.set_cons_zero, List.set_cons_succ, ex_some, ex_some1, ex_bl, ex_int, st_0, st_1, st_w1, st_w2, at3_0, at3_1, at3_2, at2_0, at2_1, st_push, st_len, st_2, lstOf_last, Bool.not_true, Bool.false_eq_true, if_false]
            refine ⟨by decide, ?_⟩
            refine (due_is S7 _ (plw.ty S7) (looks_of (plw.ty S7))).mono ?_
            rintro v S8 ⟨rfl, ex, rfl⟩
            have hb : machB (.tup [.int n, .tup (rooms.map (wide n))]) = decide ((n : Int) = 4) := by
              have : n = 4 ∨ n = 5 ∨ n = 6 := by omega
              rcases this with rfl | rfl | rfl
              · rw [mach_true (by omega) (by omega) hwl m1 m2 hw]; rfl
              · rw [machB_mk]; rfl
              · rw [machB_mk]; rfl
            rw [hb]
            simp only [wo_run, ws_seq, ws_if, wt_e, we_op, we_un, we_var, we_c, ws_asg, ws_ret, ws_drop, ws_next, ws_break, ws_cont, wg_name, wg_sub, wg_tup, wg_nil, wg_cons, we_call, we_methL, wa_cons, wa_nil, wt_and, wt_or, wt_not, we_and, we_or, we_not, we_if, wo_I0, wo_I, wo_plus, wo_ixT, wo_ixL, wo_lenT, wo_lenL, wo_abs, wo_intB, wo_tup, wo_lst, wo_tupleL, wo_eqI, wo_eqB, wo_neS, wo_is, wo_isnot, List.map_cons, List.map_nil, List.length_cons, List.length_nil, Nat.reduceAdd, Nat.reduceSub, List.replicate, List.cons_append, List.nil_append, List.getElem?_cons_zero, List.getElem?_cons_succ, List.set_cons_zero, List.set_cons_succ, ex_some, ex_some1, ex_bl, ex_int, st_0, st_1, st_w1, st_w2, at3_0, at3_1, at3_2, at2_0, at2_1, st_push, st_len, st_2, lstOf_last, wo_neB, decide_true, Bool.not_true, Bool.false_eq_true, if_false]
            exact ⟨by first | exact .inl rfl | exact .inl trivial | trivial, _, _, rfl, pn_apps q7.pn⟩
          · rintro f l' S' ⟨rfl, y4, y5, rfl, p⟩
            exact ⟨rfl, _, _, rfl, p⟩
        rintro l S5 ⟨y4, y5, rfl, p5⟩
        rw [ws_forR]
        simp only [wa_cons, wa_nil, we_c, ex_int]
        refine ⟨by decide, ?_⟩
        refine (forX_inv (fun j l S1 => ∃ x6, l = [some (.ref 0), some (.ref 1), x2, some (.tup [.int asks, .tup rooms]), y4, y5, x6, none, none] ∧ Pn ns [] (k + 1000 + 700 * j) S1) (rngD 0 (4 : Int).toNat) 0 _ _ ⟨_, rfl, by simpa using p5⟩ ?_).mono ?_
        · rintro j x l S6 hx ⟨x6, rfl, p6⟩
          obtain ⟨hj, rfl⟩ := rngD_get hx
          have hj : j < 4 := hj
          rw [Nat.zero_add] at p6 ⊢
          simp only [wo_run, ws_seq, ws_if, wt_e, we_op, we_un, we_var, we_c, ws_asg, ws_ret, ws_drop, ws_next, ws_break, ws_cont, wg_name, wg_sub, wg_tup, wg_nil, wg_cons, we_call, we_methL, wa_cons, wa_nil, wt_and, wt_or, wt_not, we_and, we_or, we_not, we_if, wo_I0, wo_I, wo_plus, wo_ixT, wo_ixL, wo_lenT, wo_lenL, wo_abs, wo_intB, wo_tup, wo_lst, wo_tupleL, wo_eqI, wo_eqB, wo_neS, wo_is, wo_isnot, List.map_cons, List.map_nil, List.length_cons, List.length_nil, Nat.reduceAdd, Nat.reduceSub, List.replicate, List.cons_append, List.nil_append, List.getElem?_cons_zero, List.getElem?_cons_succ, List.set_cons_zero, List.set_cons_succ, ex_some, ex_some1, ex_bl, ex_int, st_0, st_1, st_w1, st_w2, at3_0, at3_1, at3_2, at2_0, at2_1, st_push, st_len, st_2, lstOf_last]
          refine (bent_ok m (Kp.of p6) (by omega) (by omega)).mono ?_
          rintro v S7 ⟨R, T, rfl, q7, hv⟩
          refine (right_kp q7 hv).mono ?_
          rintro v S8 ⟨rfl, q8⟩
          simp only [wo_run, ws_seq, ws_if, wt_e, we_op, we_un, we_var, we_c, ws_asg, ws_ret, ws_drop, ws_next, ws_break, ws_cont, wg_name, wg_sub, wg_tup, wg_nil, wg_cons, we_call, we_methL, wa_cons, wa_nil, wt_and, wt_or, wt_not, we_and, we_or, we_not, we_if, wo_I0, wo_I, wo_plus, wo_ixT, wo_ixL, wo_lenT, wo_lenL, wo_abs, wo_intB, wo_tup, wo_lst, wo_tupleL, wo_eqI, wo_eqB, wo_neS, wo_is, wo_isnot, List.map_cons, List.map_nil, List.length_cons, List.length_nil, Nat.reduceAdd, Nat.reduceSub, List.replicate, List.cons_append, List.nil_append, List.getElem?_cons_zero, List.getElem?_cons_succ, List.set_cons_zero, List.set_cons_succ, ex_some, ex_some1, ex_bl, ex_int, st_0, st_1, st_w1, st_w2, at3_0, at3_1, at3_2, at2_0, at2_1, st_push, st_len, st_2, lstOf_last, Bool.not_true, Bool.false_eq_true, if_false]
          refine (right_kp q8 (.inl (m.pm.of.mono (by omega) (by omega)))).mono ?_
          rintro v S9 ⟨rfl, q9⟩
          simp only [wo_run, ws_seq, ws_if, wt_e, we_op, we_un, we_var, we_c, ws_asg, ws_ret, ws_drop, ws_next, ws_break, ws_cont, wg_name, wg_sub, wg_tup, wg_nil, wg_cons, we_call, we_methL, wa_cons, wa_nil, wt_and, wt_or, wt_not, we_and, we_or, we_not, we_if, wo_I0, wo_I, wo_plus, wo_ixT, wo_ixL, wo_lenT, wo_lenL, wo_abs, wo_intB, wo_tup, wo_lst, wo_tupleL, wo_eqI, wo_eqB, wo_neS, wo_is, wo_isnot, List.map_cons, List.map_nil, List.length_cons, List.length_nil, Nat.reduceAdd, Nat.reduceSub, List.replicate, List.cons_append, List.nil_append, List.getElem?_cons_zero, List.getElem?_cons_succ, List.set_cons_zero, List.set_cons_succ, ex_some, ex_some1, ex_bl, ex_int, st_0, st_1, st_w1, st_w2, at3_0, at3_1, at3_2, at2_0, at2_1, st_push, st_len, st_2, lstOf_last, Bool.not_true, Bool.false_eq_true, if_false]
          exact ⟨by first | exact .inl rfl | exact .inl trivial | trivial, _, rfl, q9.out.mono (by omega)⟩
        · rintro f l' S' ⟨rfl, y6, rfl, p⟩
          rw [rngD_len] at p
          exact ⟨.inl rfl, _, _, _, _, _, rfl, p.mono (by simp; omega)⟩
      · rintro f l' S' ⟨rfl, x2, x3, x4, x5, x6, rfl, p⟩
        rw [rngD_len] at p
        exact ⟨rfl, _, _, _, _, _, rfl, p.mono (by simp)⟩
    rintro l S2 ⟨x2, x3, x4, x5, x6, rfl, p2⟩
    obtain ⟨L, hL⟩ : ∃ L : Nat → List D, L = fun a => [D.non, .bl true, .int 0, .int 7, .str "", .str "machine", .ref a, .tup [], .ref (a + 1), .tup [.int 1], .tup [.int 1, .tup []], .tup [.int 1, .tup [.tup [.tup [.non, .non]]]], .tup [.int 0, .tup [.tup []]], .ref (a + 2)] := ⟨_, rfl⟩
    obtain ⟨ex, hlen, hmore⟩ := (Kp.of p2).more
    rw [List.nil_append] at hlen
    have q3 := hmore [.lst [], .dct [], .lst [.int 1, .int 2], .lst (L (ex.length + 2))]
    rw [List.nil_append] at q3
    obtain ⟨R, hR⟩ : ∃ R, R = ex ++ [Ob.lst [], .dct [], .lst [.int 1, .int 2], .lst (L (ex.length + 2))] := ⟨_, rfl⟩
    have g0 : R[ex.length]? = some (.lst []) := by rw [hR, show ex.length = ex.length + 0 by rfl, get_more]; rfl
    have g1 : R[ex.length + 1]? = some (.dct []) := by rw [hR, get_more]; rfl
    have g2 : R[ex.length + 2]? = some (.lst [.int 1, .int 2]) := by rw [hR, get_more]; rfl
    have g3 : R[ex.length + 3]? = some (.lst (L (ex.length + 2))) := by rw [hR, get_more]; rfl
    rw [← hR] at q3
    refine ws_cut (fun l S1 => l = [some (.ref 0), some (.ref 1), x2, x3, x4, x5, x6, some (.ref (ex.length + 3 + 2)), none] ∧ Kp ns [] 10000 S1 R) ?_ ?_
    · simp only [wo_run, ws_seq, ws_if, wt_e, we_op, we_un, we_var, we_c, ws_asg, ws_ret, ws_drop, ws_next, ws_break, ws_cont, wg_name, wg_sub, wg_tup, wg_nil, wg_cons, we_call, we_methL, wa_cons, wa_nil, wt_and, wt_or, wt_not, we_and, we_or, we_not, we_if, wo_I0, wo_I, wo_plus, wo_ixT, wo_ixL, wo_lenT, wo_lenL, wo_abs, wo_intB, wo_tup, wo_lst, wo_tupleL, wo_eqI, wo_eqB, wo_neS, wo_is, wo_isnot, List.map_cons, List.map_nil, List.length_cons, List.length_nil, Nat.reduceAdd, Nat.reduceSub, List.replicate, List.cons_append, List.nil_append, List.getElem?_cons_zero, List.getElem?_cons_succ, List.set_cons_zero, List.set_cons_succ, ex_some, ex_some1, ex_bl, ex_int, st_0, st_1, st_w1, st_w2, at3_0, at3_1, at3_2, at2_0, at2_1, st_push, st_len, st_2, lstOf_last, we_dict0]
      iterate 14 refine ⟨by decide, ?_⟩
      have hS : S2 ++ [Ob.lst []] ++ [Ob.dct []] ++ [Ob.lst [.int 1, .int 2]] ++ [Ob.lst [D.non, .bl true, .int 0, .int 7, .str "", .str "machine", .ref S2.length, .tup [], .ref (S2 ++ [Ob.lst []]).length, .tup [.int 1], .tup [.int 1, .tup []], .tup [.int 1, .tup [.tup [.tup [.non, .non]]]], .tup [.int 0, .tup [.tup []]], .ref (S2 ++ [Ob.lst []] ++ [Ob.dct []]).length]] = S2 ++ [.lst [], .dct [], .lst [.int 1, .int 2], .lst (L (ex.length + 2))] := by
        rw [hL, List.length_append, List.length_append, List.length_append, hlen]; simp
      rw [hS]
      exact ⟨by first | rfl | trivial, by rw [List.length_append, List.length_append, List.length_append, hlen]; simp, q3⟩
    rintro l S3 ⟨rfl, q4⟩
    have hall : ∀ x ∈ L (ex.length + 2), OkR R 130 16000000 x := by
      intro x hx
      have sm : ∀ i : Int, -2 ≤ i → i ≤ 30 → ∀ k B, 1 ≤ k → 10 ≤ B → Pl k B (.int i) := fun i h0 h1 k B hk hB => (Pl.small i h0 h1).mono hk hB
      have tu : ∀ (ys : List D) (k B : Nat), (∀ y ∈ ys, Pl k B y) → ys.length ≤ 2 → ∀ K C, k + 1 ≤ K → 2 * B + 7 ≤ C → Pl K C (.tup ys) := fun ys k B h hl K C hK hC =>
        (Pl.tup h (by omega)).mono hK (Nat.le_trans (Nat.add_le_add_right (Nat.mul_le_mul_left (B + 2) hl) 3) (by omega))
      have e0 : ∀ k B, 1 ≤ k → 7 ≤ B → Pl k B (.tup []) := fun k B hk hB => tu [] 0 0 (by intro y hy; cases hy) (by simp) _ _ hk (by omega)
      have ok : ∀ {x : D}, Pl 20 10000 x → OkR R 130 16000000 x := fun h => .inl (h.of.mono (by omega) (by omega))
      rw [hL] at hx
      simp only [List.mem_cons, List.not_mem_nil, or_false] at hx
      rcases hx with rfl | rfl | rfl | rfl | rfl | rfl | rfl | rfl | rfl | rfl | rfl | rfl | rfl | rfl
      · exact ok (Pl.non.mono (by omega) (by omega))
      · exact ok ((Pl.bl true).mono (by omega) (by omega))
      · exact ok (sm _ (by omega) (by omega) _ _ (by omega) (by omega))
      · exact ok (sm _ (by omega) (by omega) _ _ (by omega) (by omega))
      · exact ok ((Pl.str (B := 100) _ (by decide +kernel)).mono (by omega) (by omega))
      · exact ok ((Pl.str (B := 100) _ (by decide +kernel)).mono (by omega) (by omega))
      · exact .inl ((OfR.lst (k := 1) (B := 10) g0 (by intro x hx; cases hx)).mono (by omega) (by simp))
      · exact ok (e0 _ _ (by omega) (by omega))
      · exact .inr ((TR.dict0 g1).mono (by omega) (by omega))
      · refine ok (tu _ 1 10 (fun y hy => ?_) (by simp) _ _ (by omega) (by omega))
        simp only [List.mem_cons, List.not_mem_nil, or_false] at hy
        subst hy
        exact sm _ (by omega) (by omega) _ _ (by omega) (by omega)
      · refine ok (tu _ 1 10 (fun y hy => ?_) (by simp) _ _ (by omega) (by omega))
        simp only [List.mem_cons, List.not_mem_nil, or_false] at hy
        rcases hy with rfl | rfl
        · exact sm _ (by omega) (by omega) _ _ (by omega) (by omega)
        · exact e0 _ _ (by omega) (by omega)
      · refine ok (tu _ 10 1000 (fun y hy => ?_) (by simp) _ _ (by omega) (by omega))
        simp only [List.mem_cons, List.not_mem_nil, or_false] at hy
        rcases hy with rfl | rfl
        · exact sm _ (by omega) (by omega) _ _ (by omega) (by omega)
        · refine tu _ 5 100 (fun y hy => ?_) (by simp) _ _ (by omega) (by omega)
          simp only [List.mem_cons, List.not_mem_nil, or_false] at hy
          subst hy
          refine tu _ 3 30 (fun y hy => ?_) (by simp) _ _ (by omega) (by omega)
          simp only [List.mem_cons, List.not_mem_nil, or_false] at hy
          subst hy
          refine tu _ 1 10 (fun y hy => ?_) (by simp) _ _ (by omega) (by omega)
          simp only [List.mem_cons, List.not_mem_nil, or_false, or_self] at hy
          subst hy
          exact Pl.non
      · refine ok (tu _ 10 1000 (fun y hy => ?_) (by simp) _ _ (by omega) (by omega))
        simp only [List.mem_cons, List.not_mem_nil, or_false] at hy
        rcases hy with rfl | rfl
        · exact sm _ (by omega) (by omega) _ _ (by omega) (by omega)
        · refine tu _ 5 100 (fun y hy => ?_) (by simp) _ _ (by omega) (by omega)
          simp only [List.mem_cons, List.not_mem_nil, or_false] at hy
          subst hy
          exact e0 _ _ (by omega) (by omega)
      · refine .inl ((OfR.lst (k := 1) (B := 10) g2 (fun y hy => ?_)).mono (by omega) (by simp))
        simp only [List.mem_cons, List.not_mem_nil, or_false] at hy
        rcases hy with rfl | rfl <;> exact (sm _ (by omega) (by omega) _ _ (by omega) (by omega)).of
    refine ws_cut (fun l S1 => ∃ x8, l = [some (.ref 0), some (.ref 1), x2, x3, x4, x5, x6, some (.ref (ex.length + 3 + 2)), x8] ∧ Kp ns [] 10000 S1 R) ?_ ?_
    · rw [ws_forT]
      simp only [we_var, List.getElem?_cons_zero, List.getElem?_cons_succ, ex_some]
      rw [pn_lstG q4.pn g3]
      show Wr (forL _ _ _ ((L (ex.length + 2)).length + 1) 0 _ _) _
      refine (forL_inv (fun j l S1 => ∃ x8, l = [some (.ref 0), some (.ref 1), x2, x3, x4, x5, x6, some (.ref (ex.length + 3 + 2)), x8] ∧ Kp ns [] 10000 S1 R) (L (ex.length + 2)) (fun j l S1 ⟨_, _, h⟩ => pn_lstG h.pn g3) ?_ _ 0 _ _ (by omega) ⟨_, rfl, q4⟩).mono ?_
      · rintro j x l S5 hx ⟨x8, rfl, q5⟩
        simp only [wo_run, ws_seq, ws_if, wt_e, we_op, we_un, we_var, we_c, ws_asg, ws_ret, ws_drop, ws_next, ws_break, ws_cont, wg_name, wg_sub, wg_tup, wg_nil, wg_cons, we_call, we_methL, wa_cons, wa_nil, wt_and, wt_or, wt_not, we_and, we_or, we_not, we_if, wo_I0, wo_I, wo_plus, wo_ixT, wo_ixL, wo_lenT, wo_lenL, wo_abs, wo_intB, wo_tup, wo_lst, wo_tupleL, wo_eqI, wo_eqB, wo_neS, wo_is, wo_isnot, List.map_cons, List.map_nil, List.length_cons, List.length_nil, Nat.reduceAdd, Nat.reduceSub, List.replicate, List.cons_append, List.nil_append, List.getElem?_cons_zero, List.getElem?_cons_succ, List.set_cons_zero, List.set_cons_succ, ex_some, ex_some1, ex_bl, ex_int, st_0, st_1, st_w1, st_w2, at3_0, at3_1, at3_2, at2_0, at2_1, st_push, st_len, st_2, lstOf_last]
        refine (right_kp q5 (hall x (List.mem_of_getElem? hx))).mono ?_
        rintro v S6 ⟨rfl, q6⟩
        simp only [wo_run, ws_seq, ws_if, wt_e, we_op, we_un, we_var, we_c, ws_asg, ws_ret, ws_drop, ws_next, ws_break, ws_cont, wg_name, wg_sub, wg_tup, wg_nil, wg_cons, we_call, we_methL, wa_cons, wa_nil, wt_and, wt_or, wt_not, we_and, we_or, we_not, we_if, wo_I0, wo_I, wo_plus, wo_ixT, wo_ixL, wo_lenT, wo_lenL, wo_abs, wo_intB, wo_tup, wo_lst, wo_tupleL, wo_eqI, wo_eqB, wo_neS, wo_is, wo_isnot, List.map_cons, List.map_nil, List.length_cons, List.length_nil, Nat.reduceAdd, Nat.reduceSub, List.replicate, List.cons_append, List.nil_append, List.getElem?_cons_zero, List.getElem?_cons_succ, List.set_cons_zero, List.set_cons_succ, ex_some, ex_some1, ex_bl, ex_int, st_0, st_1, st_w1, st_w2, at3_0, at3_1, at3_2, at2_0, at2_1, st_push, st_len, st_2, lstOf_last, Bool.not_true, Bool.false_eq_true, if_false]
        exact ⟨by first | exact .inl rfl | exact .inl trivial | trivial, _, rfl, q6⟩
      · rintro f l' S' ⟨rfl, x8, rfl, q⟩
        exact ⟨rfl, _, rfl, q⟩
    rintro l S4 ⟨x8, rfl, q5⟩
    simp only [wo_run, ws_seq, ws_if, wt_e, we_op, we_un, we_var, we_c, ws_asg, ws_ret, ws_drop, ws_next, ws_break, ws_cont, wg_name, wg_sub, wg_tup, wg_nil, wg_cons, we_call, we_methL, wa_cons, wa_nil, wt_and, wt_or, wt_not, we_and, we_or, we_not, we_if, wo_I0, wo_I, wo_plus, wo_ixT, wo_ixL, wo_lenT, wo_lenL, wo_abs, wo_intB, wo_tup, wo_lst, wo_tupleL, wo_eqI, wo_eqB, wo_neS, wo_is, wo_isnot, List.map_cons, List.map_nil, List.length_cons, List.length_nil, Nat.reduceAdd, Nat.reduceSub, List.replicate, List.cons_append, List.nil_append, List.getElem?_cons_zero, List.getElem?_cons_succ, List.set_cons_zero, List.set_cons_succ, ex_some, ex_some1, ex_bl, ex_int, st_0, st_1, st_w1, st_w2, at3_0, at3_1, at3_2, at2_0, at2_1, st_push, st_len, st_2, lstOf_last]
    refine (deep_ok ns [] R S4 10000 q5 (by omega) (by omega)).mono ?_
    rintro v S5 ⟨R2, T2, rfl, q6, hv⟩
    refine (right_kp q6 (.inl (hv.mono (by omega) (by omega)))).mono ?_
    rintro v S6 ⟨rfl, _⟩
    first | rfl | trivial
  obtain ⟨v, S', e, rfl⟩ := key
  exact ⟨S', e⟩
end M
open PySem PySem.W PyProof.Rows
set_option maxRecDepth 100000 in
set_option maxHeartbeats 0 in
theorem PySem.Challenge.cw_opencells_k01_machines_of_anything_holds : PySem.Challenge.rw_opencells_k01_machines_of_anything.Holds := by
  w_on; o_law; k_head; (case hw => w_witness2)
  k_fill
  refine G.walk (l := PySem.Challenge.rw_opencells_k01_machines_of_anything) rfl rfl (fun w h Y => PySem.W.kIn_of Y) ?F (fun ns hl => M.law_true ns hl)
  case F =>
    intro w mg fa h KX GN hmg
    refine' G.all_mk KX GN hmg ?a0 ?l0 ?c0 ?k0 ?a1 ?l1 ?c1 ?k1 ?a2 ?l2 ?c2 ?k2 ?a3 ?l3 ?c3 ?k3 ?a4 ?l4 ?c4 ?k4 ?a5 ?l5 ?c5 ?k5 ?a6 ?l6 ?c6 ?k6 ?a7 ?l7 ?c7 ?k7 ?a8 ?l8 ?c8 ?k8 ?a9 ?l9 ?c9 ?k9 ?a10 ?l10 ?c10 ?k10 ?a11 ?l11 ?c11 ?k11 ?a12 ?l12 ?c12 ?k12 ?a13 ?l13 ?c13 ?k13 ?a14 ?l14 ?c14 ?k14 ?a15 ?l15 ?c15 ?k15 ?a16 ?l16 ?c16 ?k16 ?a17 ?l17 ?c17 ?k17 ?z_isinstance ?z_int ?z_bool ?z_tuple ?z_len ?z_all ?z_repr ?z_abs ?z_range ?z_list ?c_ANSWERS ?c_MOST_ROOMS ?c_MOST_ASKS
    (case a0 => k_is)
    (case l0 => k_is)
    (case c0 => k_is)
    (case k0 => k_is)
    (case a1 => k_is)
    (case l1 => k_is)
    (case c1 => k_is)
    (case k1 => k_is)
    (case a2 => k_is)
    (case l2 => k_is)
    (case c2 => k_is)
    (case k2 => k_is)
    (case a3 => k_is)
    (case l3 => k_is)
    (case c3 => k_is)
    (case k3 => k_is)
    (case a4 => k_is)
    (case l4 => k_is)
    (case c4 => k_is)
    (case k4 => k_is)
    (case a5 => k_is)
    (case l5 => k_is)
    (case c5 => k_is)
    (case k5 => k_is)
    (case a6 => k_is)
    (case l6 => k_is)
    (case c6 => k_is)
    (case k6 => k_is)
    (case a7 => k_is)
    (case l7 => k_is)
    (case c7 => k_is)
    (case k7 => k_is)
    (case a8 => k_is)
    (case l8 => k_is)
    (case c8 => k_is)
    (case k8 => k_is)
    (case a9 => k_is)
    (case l9 => k_is)
    (case c9 => k_is)
    (case k9 => k_is)
    (case a10 => k_is)
    (case l10 => k_is)
    (case c10 => k_is)
    (case k10 => k_is)
    (case a11 => k_is)
    (case l11 => k_is)
    (case c11 => k_is)
    (case k11 => k_is)
    (case a12 => k_is)
    (case l12 => k_is)
    (case c12 => k_is)
    (case k12 => k_is)
    (case a13 => k_is)
    (case l13 => k_is)
    (case c13 => k_is)
    (case k13 => k_is)
    (case a14 => k_is)
    (case l14 => k_is)
    (case c14 => k_is)
    (case k14 => k_is)
    (case a15 => k_is)
    (case l15 => k_is)
    (case c15 => k_is)
    (case k15 => k_is)
    (case a16 => k_is)
    (case l16 => k_is)
    (case c16 => k_is)
    (case k16 => k_is)
    (case a17 => k_is)
    (case l17 => k_is)
    (case c17 => k_is)
    (case k17 => k_is)
    (case z_isinstance => k_is)
    (case z_int => k_is)
    (case z_bool => k_is)
    (case z_tuple => k_is)
    (case z_len => k_is)
    (case z_all => k_is)
    (case z_repr => k_is)
    (case z_abs => k_is)
    (case z_range => k_is)
    (case z_list => k_is)
    (case c_ANSWERS => k_is)
    (case c_MOST_ROOMS => k_is)
    (case c_MOST_ASKS => k_is)
#print axioms PySem.Challenge.cw_opencells_k01_machines_of_anything_holds