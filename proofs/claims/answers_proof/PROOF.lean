import PyProof.Rows.All
import Wide.All
import OpenK.AllK
import Wide.FinOn
import PyProof.EqAt
import PyProof.EqKinds
import PyProof.TupleCall
import KE.BitLaws
import KE.OsGo
import Open.SpecLaws
import PySem.Challenge.RW_longdeed_s01_answers
set_option Elab.async false
set_option linter.all false
set_option maxRecDepth 100000
/-! THE HAND LAYER, for ints, bools, texts, own classes, lists, tuples, dicts, comprehensions, walks over dicts, enumerate, zip, reversed, texts, calls, loops. Paste it whole ahead of your own text; what your proof does not reach may be deleted. -/
namespace L2
open PySem PySem.Spec PyProof.Rows

/-- a key: an int or a str -/
noncomputable abbrev Key := Sum Int Str
noncomputable def keyIs : Key → Value → Bool
  | .inl k, v => Value.isInt k v
  | .inr x, v => Value.isStrOf x v
noncomputable def keyH (w : World) : Key → Int
  | .inl k => hashInt k
  | .inr x => hashStr w x
theorem keyIs_shape : ∀ {k : Key} {v : Value}, keyIs k v = true → (∃ i t, k = Sum.inl i ∧ v = Value.int i t) ∨ (∃ x t, k = Sum.inr x ∧ v = Value.str x t)
  | .inl i, v, h => by
    obtain ⟨t, e⟩ := Value.isInt_shape (k := i) (v := v) h
    exact .inl ⟨i, t, rfl, e⟩
  | .inr x, v, h => by
    obtain ⟨t, e⟩ := Value.isStrOf_shape (x := x) (v := v) h
    exact .inr ⟨x, t, rfl, e⟩
theorem key_ll (a b : Int) : decide ((Sum.inl a : Key) = Sum.inl b) = (a == b) := by
  by_cases e : a = b
  · subst e; simp
  · have h : ¬ (Sum.inl a : Key) = Sum.inl b := fun q => e (Sum.inl.inj q)
    rw [decide_eq_false h]
    exact (beq_eq_false_iff_ne.mpr e).symm
theorem key_rr (a b : Str) : decide ((Sum.inr a : Key) = Sum.inr b) = decide (a = b) := by
  by_cases e : a = b
  · subst e; simp
  · have h : ¬ (Sum.inr a : Key) = Sum.inr b := fun q => e (Sum.inr.inj q)
    rw [decide_eq_false h, decide_eq_false e]
theorem key_lr (a : Int) (b : Str) : decide ((Sum.inl a : Key) = Sum.inr b) = false := decide_eq_false (fun q => nomatch q)
theorem key_rl (a : Str) (b : Int) : decide ((Sum.inr a : Key) = Sum.inl b) = false := decide_eq_false (fun q => nomatch q)

noncomputable def mixKind (prog : Program) (w : World) : PySem.KeyKind prog w Key where
  is := keyIs
  hash := keyH w
  inj := fun v a b ha hb => by
    rcases keyIs_shape ha with ⟨i, t, rfl, rfl⟩ | ⟨x, t, rfl, rfl⟩
    · rcases keyIs_shape hb with ⟨j, u, rfl, e⟩ | ⟨y, u, rfl, e⟩
      · injection e with e1 _; rw [e1]
      · exact nomatch e
    · rcases keyIs_shape hb with ⟨j, u, rfl, e⟩ | ⟨y, u, rfl, e⟩
      · exact nomatch e
      · injection e with e1 _; rw [e1]
  byValue := fun k v h => by
    rcases keyIs_shape h with ⟨i, t, rfl, rfl⟩ | ⟨x, t, rfl, rfl⟩ <;> rfl
  pyHash := fun hv h => by
    rcases keyIs_shape hv with ⟨i, t, rfl, rfl⟩ | ⟨x, t, rfl, rfl⟩
    · exact wpAny_pyHash_int h
    · exact wpAny_pyHash_str h
  eqBool := fun hu hv h => by
    rcases keyIs_shape hu with ⟨i, t, rfl, rfl⟩ | ⟨x, t, rfl, rfl⟩
    · rcases keyIs_shape hv with ⟨j, u, rfl, rfl⟩ | ⟨y, u, rfl, rfl⟩
      · rw [key_ll] at h; exact wpAny_eqBool_int h
      · rw [key_lr] at h; exact SeqAt.EqAt.int_str i t y u _ _ _ _ h
    · rcases keyIs_shape hv with ⟨j, u, rfl, rfl⟩ | ⟨y, u, rfl, rfl⟩
      · rw [key_rl] at h; exact SeqAt.EqAt.str_int x t j u _ _ _ _ h
      · rw [key_rr] at h; exact wpAny_eqBool_str h
  «strs» := fun k x t v h => by
    rcases keyIs_shape h with ⟨i, u, rfl, e⟩ | ⟨y, u, rfl, e⟩
    · exact nomatch e
    · injection e with e1 _
      subst e1
      cases v <;> rfl

end L2

namespace L2
open PySem PySem.Spec PyProof.Rows

/-- a value, without the heap -/
inductive V where
  | non | bl (b : Bool) | int (i : Int) | str (x : Str) | byt (b : Array UInt8) | flt (b : UInt64) | ref (a : Addr) | ty (n : String)
  deriving DecidableEq

noncomputable def RelV : V → Value → Prop
  | .non, u => u = Value.none
  | .bl b, u => u = Value.bool b
  | .int i, u => ∃ t, u = Value.int i t
  | .str x, u => ∃ t, u = Value.str x t
  | .byt b, u => ∃ t, u = Value.bytes b t
  | .flt b, u => ∃ t, u = Value.float b t
  | .ref a, u => u = Value.ref a
  | .ty n, u => u = Value.type n

noncomputable abbrev Vals : List V → List Value → Prop := Paired RelV
theorem Vals.length {xs : List V} {us : List Value} (r : Vals xs us) : xs.length = us.length := Paired.length r
theorem Vals.get : ∀ {xs : List V} {us : List Value} {i : Nat} {x : V}, Vals xs us → xs[i]? = some x → ∃ u, us[i]? = some u ∧ RelV x u
  | _, _, _, _, .nil, e => by simp at e
  | _, _, 0, _, .cons r _, e => by simp at e; subst e; exact ⟨_, rfl, r⟩
  | _, _, i + 1, x, .cons _ t, e => by
    obtain ⟨u, h1, h2⟩ := Vals.get (i := i) (x := x) t (by simpa using e)
    exact ⟨u, by simpa using h1, h2⟩
theorem Vals.set {x : V} {u : Value} (r : RelV x u) : ∀ {xs : List V} {us : List Value} (i : Nat), Vals xs us → Vals (xs.set i x) (us.set i u)
  | _, _, _, .nil => .nil
  | _, _, 0, .cons _ t => .cons r t
  | _, _, i + 1, .cons q t => .cons q (Vals.set r i t)
theorem Vals.append : ∀ {xs ys : List V} {us ws : List Value}, Vals xs us → Vals ys ws → Vals (xs ++ ys) (us ++ ws)
  | _, _, _, _, .nil, s => s
  | _, _, _, _, .cons r t, s => .cons r (Vals.append t s)
theorem Vals.take : ∀ {xs : List V} {us : List Value} (n : Nat), Vals xs us → Vals (xs.take n) (us.take n)
  | _, _, 0, _ => .nil
  | _, _, _ + 1, .nil => .nil
  | _, _, n + 1, .cons r t => .cons r (Vals.take n t)
theorem Vals.drop : ∀ {xs : List V} {us : List Value} (n : Nat), Vals xs us → Vals (xs.drop n) (us.drop n)
  | _, _, 0, r => r
  | _, _, _ + 1, .nil => .nil
  | _, _, n + 1, .cons _ t => Vals.drop n t

noncomputable def RelO : Option V → Option Value → Prop
  | some v, some u => RelV v u
  | none, none => True
  | _, _ => False
noncomputable def KV {κ : Type} : List (κ × V) → List (κ × Value) → Prop := Paired fun (p : κ × V) (q : κ × Value) => p.1 = q.1 ∧ RelV p.2 q.2

/-- a key of a dict (00_mix): an int or a text -/
noncomputable def kV : Key → V
  | .inl i => .int i
  | .inr x => .str x

/-- what stands at a tracked address -/
inductive HO where
  /-- a list -/
  | lst (xs : List V)
  /-- a tuple (never changes) -/
  | tup (xs : List V)
  /-- a dict whose keys are ints and texts; one whose keys are tuples of ints and texts (the empty one is both) -/
  | dK (kvs : List (Key × V)) | dT (kvs : List (List Key × V))
  /-- a set of ints: its members, its size -/
  | set (S : Int → Bool) (n : Nat)
  /-- an instance of the class at C, its dict at dx, its attributes -/
  | ins (C dx : Addr) (fs : List (Str × V))
  /-- the dict of the instance at x -/
  | own (x : Addr)
  /-- the dict of an exception -/
  | xd (fs : List (Str × V))
  /-- a bound method, f of x -/
  | met (f x : Addr)
  /-- a range object lo, lo + 1, .. below hi -/
  | rng (lo hi : Int)
  /-- a thing that is known to the object (the script; a dict while a loop walks it): read, never written while it is so -/
  | frz (o : Obj) (u : HO)
  /-- a code object's table -/
  | tbl (ps : Array Value)
  /-- any other thing, by what is true of its one object (a def of one's own: SetO a S n := HO.ext fun h => ..) -/
  | ext (φ : Heap → Prop)

noncomputable abbrev Hp := Addr → Option HO
noncomputable def upd (H : Hp) (a : Addr) (o : HO) : Hp := fun b => if b = a then some o else H b
theorem upd_same {H : Hp} {a : Addr} {o : HO} : upd H a o a = some o := by unfold upd; rw [if_pos rfl]
theorem upd_ne {H : Hp} {a b : Addr} {o : HO} (h : b ≠ a) : upd H a o b = H b := by unfold upd; rw [if_neg h]
theorem upd_upd {H : Hp} {a : Addr} {o u : HO} : upd (upd H a o) a u = upd H a u := by
  funext b; unfold upd; split <;> rfl
/-- two objects of different content stand apart -/
theorem ne_of {H : Hp} {a b : Addr} {o u : HO} (h : H a = some o) (h' : H b = some u) (d : o ≠ u) : a ≠ b := by
  intro e; subst e; rw [h] at h'; exact d (Option.some.inj h')
theorem ne_of_none {H : Hp} {a b : Addr} {o : HO} (h : H a = some o) (h' : H b = none) : a ≠ b := by
  intro e; subst e; rw [h] at h'; cases h'

section
variable (P : Program) (w : World)
noncomputable def ObjOk (H : Hp) (h : Heap) (a : Addr) : HO → Prop
  | .lst xs => xs.length ≤ sizeLine ∧ ∃ (its : List Value) (n : Nat), Vals xs its ∧ h.get? a = some { cls := .type "list", data := .seq its.toArray n }
  | .tup xs => xs.length ≤ sizeLine ∧ ∃ its : List Value, Vals xs its ∧ IsTup h a its.toArray
  | .dK kvs => kvs.length ≤ sizeLine ∧ (a == sysModules) = false ∧ ∃ vs, KV kvs vs ∧ h.DictOf (mixKind P w) a vs
  | .dT kvs => kvs.length ≤ sizeLine ∧ (a == sysModules) = false ∧ ∃ xs : List (List Key × Addr × Value),
      Paired (fun (p : List Key × V) (q : List Key × Addr × Value) => p.1 = q.1 ∧ H q.2.1 = some (.tup (p.1.map kV)) ∧ RelV p.2 q.2.2) kvs xs ∧
      ∃ o es ep, h.get? a = some o ∧ o.ExactDict ∧ o.data = .dict es ep ∧ es.toList = xs.map (entryOfKey (tupleKind (mixKind P w))) ∧ (xs.map (·.1)).Nodup
  | .set S n => h.SetOf (intKind P w) a S n
  | .ins C dx fs => H dx = some (.own a) ∧ fs.length ≤ 1000 ∧ dx ≠ a ∧ h.get? a = some (PySem.W.instObj C dx) ∧
      ∃ mA, h.Ns1 dx mA ∧ (∀ f, RelO (fs.lookup f) (mA f)) ∧ PySem.Within mA (fs.map (·.1))
  | .own _ => ∃ o, h.get? a = some o
  | .xd fs => ∃ mA, h.Ns1 a mA ∧ ∀ f, RelO (fs.lookup f) (mA f)
  | .rng lo hi => ∃ t u v, h.get? a = some { cls := .type "range", data := .fields #[.int lo t, .int hi u, .int 1 v] }
  | .frz o u => h.get? a = some o ∧ ObjOk H h a u
  | .tbl ps => h.get? a = some { cls := .none, data := .fields ps }
  | .met f x => h.get? a = some (PySem.W.methodObj (.ref f) (.ref x))
  | .ext φ => φ h ∧ (∃ o, h.get? a = some o) ∧ ∀ h1 h2 : Heap, φ h1 → (∀ o, h1.get? a = some o → h2.get? a = some o) → φ h2
/-- the abstract heap is held -/
noncomputable def HOk (H : Hp) (h : Heap) : Prop := ∀ a o, H a = some o → ObjOk P w H h a o
end

section
variable {P : Program} {w : World} {H H' : Hp} {h h' : Heap} {a : Addr} {o : HO}
theorem ObjOk.lt (x : ObjOk P w H h a o) : a < h.objs.size := by
  cases o with
  | lst xs => obtain ⟨_, _, _, _, e⟩ := x; exact Heap.lt_size e
  | tup xs => obtain ⟨_, _, _, p⟩ := x; exact p.lt
  | dK kvs => obtain ⟨_, _, _, _, o, _, _, e, _⟩ := x; exact Heap.lt_size e
  | dT kvs => obtain ⟨_, _, _, _, o, _, _, e, _⟩ := x; exact Heap.lt_size e
  | set S n => obtain ⟨o, _, _, _, e, _⟩ := x; exact Heap.lt_size e
  | ins C dx fs => obtain ⟨_, _, _, e, _⟩ := x; exact Heap.lt_size e
  | own y => obtain ⟨_, e⟩ := x; exact Heap.lt_size e
  | xd fs => obtain ⟨_, ⟨_, _, _, e, _⟩, _⟩ := x; exact Heap.lt_size e
  | rng lo hi => obtain ⟨_, _, _, e⟩ := x; exact Heap.lt_size e
  | frz ob u => obtain ⟨e, _⟩ := x; exact Heap.lt_size e
  | tbl ps => exact Heap.lt_size (show h.get? a = some _ from x)
  | met f y => exact Heap.lt_size (show h.get? a = some _ from x)
  | ext φ => obtain ⟨_, ⟨_, e⟩, _⟩ := x; exact Heap.lt_size e
theorem Paired.mapP {α β : Type} {F G : α → β → Prop} : ∀ {l₁ : List α} {l₂ : List β}, Paired F l₁ l₂ → (∀ a b, F a b → G a b) → Paired G l₁ l₂
  | _, _, .nil, _ => .nil
  | _, _, .cons r t, f => .cons (f _ _ r) (Paired.mapP t f)
/-- what an object's description leans on: its own object, its own dict, the tuples -/
theorem ObjOk.stay (x : ObjOk P w H h a o) (k : ∀ b u, (b = a ∨ H b = some (.own a)) → h.get? b = some u → h'.get? b = some u)
    (ho : ∀ b, H b = some (.own a) → H' b = some (.own a)) (ht : ∀ b xs, H b = some (.tup xs) → H' b = some (.tup xs)) : ObjOk P w H' h' a o := by
  induction o with
  | lst xs => obtain ⟨z, its, n, r, e⟩ := x; exact ⟨z, its, n, r, k _ _ (.inl rfl) e⟩
  | tup xs => obtain ⟨z, its, r, ob, e, c⟩ := x; exact ⟨z, its, r, ob, k _ _ (.inl rfl) e, c⟩
  | dK kvs => obtain ⟨z, y, vs, r, ob, es, ep, e, c⟩ := x; exact ⟨z, y, vs, r, ob, es, ep, k _ _ (.inl rfl) e, c⟩
  | dT kvs =>
    obtain ⟨z, y, xs, r, ob, es, ep, e, c⟩ := x
    exact ⟨z, y, xs, Paired.mapP r fun p q z => ⟨z.1, ht _ _ z.2.1, z.2.2⟩, ob, es, ep, k _ _ (.inl rfl) e, c⟩
  | set S n => obtain ⟨ob, es, ep, t, e, c⟩ := x; exact ⟨ob, es, ep, t, k _ _ (.inl rfl) e, c⟩
  | ins C dx fs =>
    obtain ⟨d, z, ne, e, mA, ⟨od, es, ep, e2, c⟩, r⟩ := x
    exact ⟨ho _ d, z, ne, k _ _ (.inl rfl) e, mA, ⟨od, es, ep, k _ _ (.inr d) e2, c⟩, r⟩
  | own y => obtain ⟨ob, e⟩ := x; exact ⟨ob, k _ _ (.inl rfl) e⟩
  | xd fs => obtain ⟨mA, ⟨od, es, ep, e, c⟩, r⟩ := x; exact ⟨mA, ⟨od, es, ep, k _ _ (.inl rfl) e, c⟩, r⟩
  | rng lo hi => obtain ⟨t, u, v, e⟩ := x; exact ⟨t, u, v, k _ _ (.inl rfl) e⟩
  | frz ob u ih => obtain ⟨e, q⟩ := x; exact ⟨k _ _ (.inl rfl) e, ih q⟩
  | tbl ps =>
    have e : h.get? a = some { cls := .none, data := .fields ps } := x
    show h'.get? a = some { cls := .none, data := .fields ps }
    exact k a _ (.inl rfl) e
  | met f y =>
    have e : h.get? a = some (PySem.W.methodObj (.ref f) (.ref y)) := x
    show h'.get? a = some (PySem.W.methodObj (.ref f) (.ref y))
    exact k a _ (.inl rfl) e
  | ext φ => obtain ⟨p, ⟨o, e⟩, st⟩ := x; exact ⟨st _ _ p fun o q => k _ _ (.inl rfl) q, ⟨o, k _ _ (.inl rfl) e⟩, st⟩
theorem HOk.lt (x : HOk P w H h) (e : H a = some o) : a < h.objs.size := (x a o e).lt
theorem HOk.fresh (x : HOk P w H h) (e : h.objs.size ≤ a) : H a = none := by
  cases q : H a with
  | none => rfl
  | some u => exact absurd (Nat.lt_of_lt_of_le (x.lt q) e) (Nat.lt_irrefl _)
/-- every object of the heap is kept -/
theorem HOk.kept (x : HOk P w H h) (k : ∀ b u, h.get? b = some u → h'.get? b = some u) : HOk P w H h' := fun a o e =>
  (x a o e).stay (fun b u _ q => k b u q) (fun _ q => q) fun _ _ q => q
/-- a new object is laid and tracked -/
theorem HOk.laid (x : HOk P w H h) (k : ∀ b u, h.get? b = some u → h'.get? b = some u) (hp : h.objs.size ≤ a) (new : ObjOk P w (upd H a o) h' a o) : HOk P w (upd H a o) h' := fun b u e => by
  have hn := x.fresh hp
  by_cases hb : b = a
  · subst hb; rw [upd_same] at e; cases e; exact new
  · rw [upd_ne hb] at e
    exact (x b u e).stay (fun c v _ q => k c v q) (fun c q => by rw [upd_ne (ne_of_none q hn)]; exact q) fun c xs q => by rw [upd_ne (ne_of_none q hn)]; exact q
end

/-- what may be read as u: it is u, or a known u -/
noncomputable def Rd (H : Hp) (a : Addr) (u : HO) : Prop := H a = some u ∨ ∃ o, H a = some (.frz o u)
theorem Rd.ok {P : Program} {w : World} {H : Hp} {h : Heap} {a : Addr} {u : HO} (r : Rd H a u) (x : HOk P w H h) : ObjOk P w H h a u := by
  rcases r with r | ⟨o, r⟩
  · exact x a u r
  · obtain ⟨_, q⟩ := x a _ r
    exact q
/-- what may be written -/
noncomputable def Mut : Option HO → Prop
  | some (.lst _) => True
  | some (.dK _) => True
  | some (.dT _) => True
  | some (.set _ _) => True
  | some (.ins _ _ _) => True
  | some (.ext _) => True
  | _ => False
section
variable {P : Program} {w : World} {H : Hp} {h h' : Heap} {x e : Addr} {o' : HO}
/-- the object at e is changed: x itself, or the dict of the instance x -/
theorem HOk.write (ok : HOk P w H h) (mu : Mut (H x)) (he : e = x ∨ H e = some (.own x)) (k : ∀ b u, b ≠ e → h.get? b = some u → h'.get? b = some u) (heo : ∃ u, h'.get? e = some u)
    (new : ObjOk P w (upd H x o') h' x o') : HOk P w (upd H x o') h' := fun b u q => by
  have nown : ∀ c y, H c = some (.own y) → c ≠ x := fun c y r z => by subst z; rw [r] at mu; exact mu
  have ntup : ∀ c xs, H c = some (.tup xs) → c ≠ x := fun c xs r z => by subst z; rw [r] at mu; exact mu
  by_cases hb : b = x
  · subst hb; rw [upd_same] at q; cases q; exact new
  · rw [upd_ne hb] at q
    by_cases hbe : b = e
    · have q' : H b = some (.own x) := by
        rcases he with z | z
        · exact absurd (hbe.trans z) hb
        · rw [hbe]; exact z
      rw [q] at q'; cases q'
      obtain ⟨v, hv⟩ := heo
      exact ⟨v, by rw [hbe]; exact hv⟩
    · refine (ok b u q).stay (fun c v hc r => k c v ?_ r) (fun c r => by rw [upd_ne (nown c b r)]; exact r) fun c xs r => by rw [upd_ne (ntup c xs r)]; exact r
      rcases hc with rfl | hc
      · exact hbe
      · rintro rfl
        rcases he with z | z
        · exact nown c b hc z
        · rw [hc] at z; cases z; exact hb rfl
end

/-! ### kept unless tracked; of the frames at fs (the callers') the slots may change (an exception that passes writes there); of the records at ex (iterators) nothing is said -/
structure Un (fs ex : List Addr) (H H' : Hp) (h h' : Heap) : Prop where
  keep : ∀ b o, h.get? b = some o → H b = none → b ∉ fs → b ∉ ex → h'.get? b = some o
  slot : ∀ b o, h.get? b = some o → H b = none → b ∈ fs → b ∉ ex → ∃ sl, h'.get? b = some { o with slots := sl }
  free : ∀ b o, h.get? b = some o → H b = none → b ∉ ex → H' b = none
  there : ∀ b o, h.get? b = some o → b ∉ ex → ∃ o', h'.get? b = some o'
  tups : ∀ b xs, H b = some (.tup xs) → H' b = some (.tup xs)
  frzs : ∀ b o u, H b = some (.frz o u) → H' b = some (.frz o u)
  tbls : ∀ b ps, H b = some (.tbl ps) → ∃ more, H' b = some (.tbl (ps ++ more))
section
variable {fs fs' ex ex' : List Addr} {H H1 H2 : Hp} {h h1 h2 h' : Heap} {a x e : Addr} {o : HO}
theorem Un.any (u : Un fs ex H H1 h h1) {b : Addr} {ob : Obj} (q : h.get? b = some ob) (n : H b = none) (hx : b ∉ ex) : ∃ sl, h1.get? b = some { ob with slots := sl } := by
  by_cases hb : b ∈ fs
  · exact u.slot b ob q n hb hx
  · exact ⟨ob.slots, u.keep b ob q n hb hx⟩
theorem Un.kept (k : ∀ b u, h.get? b = some u → h'.get? b = some u) : Un fs ex H H h h' :=
  ⟨fun b ob q _ _ _ => k b ob q, fun b ob q _ _ _ => ⟨ob.slots, k b ob q⟩, fun _ _ _ n _ => n, fun b ob q _ => ⟨ob, k b ob q⟩, fun _ _ q => q, fun _ _ _ q => q, fun _ ps q => ⟨#[], by rw [q]; simp⟩⟩
theorem Un.refl : Un fs ex H H h h := Un.kept fun _ _ q => q
theorem Un.laid (k : ∀ b u, h.get? b = some u → h'.get? b = some u) (hp : h.objs.size ≤ a) (hn : H a = none) : Un fs ex H (upd H a o) h h' where
  keep := fun b u q _ _ _ => k b u q
  slot := fun b u q _ _ _ => ⟨u.slots, k b u q⟩
  free := fun b u q n _ => by rw [upd_ne (Nat.ne_of_lt (Nat.lt_of_lt_of_le (Heap.lt_size q) hp))]; exact n
  there := fun b u q _ => ⟨u, k b u q⟩
  tups := fun b xs q => by rw [upd_ne (ne_of_none q hn)]; exact q
  frzs := fun b u xs q => by rw [upd_ne (ne_of_none q hn)]; exact q
  tbls := fun b ps q => ⟨#[], by rw [upd_ne (ne_of_none q hn), q]; simp⟩
theorem Un.write (mu : Mut (H x)) (he : e = x ∨ H e = some (.own x)) (k : ∀ b u, b ≠ e → h.get? b = some u → h'.get? b = some u) (heo : ∃ u, h'.get? e = some u) : Un fs ex H (upd H x o) h h' := by
  have hx : ∀ b, H b = none → b ≠ x := fun b n z => by subst z; rw [n] at mu; exact mu
  have hb : ∀ b, H b = none → b ≠ e := fun b n z => by
    subst z
    rcases he with r | r
    · exact hx b n r
    · rw [n] at r; cases r
  have hm : ∀ b u, H b = some u → ¬ Mut (some u) → b ≠ x := fun b u q nm z => by subst z; rw [q] at mu; exact nm mu
  refine ⟨fun b u q n _ _ => k b u (hb b n) q, fun b u q n _ _ => ⟨u.slots, k b u (hb b n) q⟩, fun b u q n _ => by rw [upd_ne (hx b n)]; exact n, fun b u q _ => ?_,
    fun b xs q => by rw [upd_ne (hm b _ q fun z => z)]; exact q, fun b u xs q => by rw [upd_ne (hm b _ q fun z => z)]; exact q, fun b ps q => ⟨#[], by rw [upd_ne (hm b _ q fun z => z), q]; simp⟩⟩
  by_cases hbe : b = e
  · subst hbe; exact heo
  · exact ⟨u, k b u hbe q⟩
end

/-! ### the heap without what is tracked -/
noncomputable def trk (h : Heap) (H : Hp) : List Addr := (List.range h.objs.size).filter fun a => (H a).isSome
noncomputable def hidT (h : Heap) (H : Hp) : Heap := PySem.W.hideAll h (trk h H)
theorem hidT_size (h : Heap) (H : Hp) : (hidT h H).objs.size = h.objs.size := PySem.W.hideAll_size _ _
theorem hidT_get {h : Heap} {H : Hp} {b : Addr} {o : Obj} (e : h.get? b = some o) (n : H b = none) : (hidT h H).get? b = some o :=
  PySem.W.hideAll_get _ e fun hm => by
    have q : (H b).isSome = true := (List.mem_filter.mp hm).2
    rw [n] at q; simp at q
theorem of_hidT {h : Heap} {H : Hp} {b : Addr} {o : Obj} (e : (hidT h H).get? b = some o) : h.get? b = some o ∧ H b = none := by
  have e' : h.get? b = some o := PySem.W.of_hideAll (trk h H) e
  refine ⟨e', ?_⟩
  cases q : H b with
  | none => rfl
  | some x =>
    have hm : b ∈ trk h H := List.mem_filter.mpr ⟨List.mem_range.mpr (Heap.lt_size e'), by simp [q]⟩
    have z : (hidT h H).get? b = none := PySem.W.hideAll_none (trk h H) hm
    rw [z] at e; cases e

/-! ### OpenK's ledger, filled with every new object but one -/
end L2

namespace L2
open PySem PySem.Spec PyProof.Rows

/-- the module's facts, over the base: the heap at the law's entry without what is tracked there -/
structure Mod (K : PySem.W.Frag) (mg : Str → Option Value) (base : Heap) : Prop where
  kin : K.In base
  glob : base.Ns mainGlobals mg
  blt : ∃ mb, base.Ns builtinsNs mb ∧ ∀ x : Str, x ≠ "__name__" → mb x = bootBuiltins x
  nolimit : base.NoLimit

/-- the context: a def's body (or a comprehension's block) running. base: fixed through the whole law; s₀, H₀: the entry; outer: the frames whose slots others may change (a def's callers); stack: all frames that run;
   ex: iterators that were made ahead of the entry and are walked here (a comprehension's); fn: the names whose cells were made at the entry (a def: all; a comprehension's block: its own); calm: not within an except suite; pn: pins that every state bears; xe: what is wanted of an exception that leaves the code -/
structure Cx where
  prog : Program
  w : World
  K : PySem.W.Frag
  mg : Str → Option Value
  base : Heap
  A : Around
  N : List Str
  s₀ : Shared
  H₀ : Hp
  env : Env
  outer : List Env
  stack : List Env
  ex : List Addr
  fn : Str → Bool
  calm : Bool
  pn : List (Addr × Obj)
  xe : Value → Shared → Prop
/-- the callers' frames -/
noncomputable def frs (l : List Env) : List Addr := l.filterMap (·.frame)
noncomputable abbrev Cx.fs (X : Cx) : List Addr := frs X.outer

noncomputable def Vis (sc : Scope) (x : Str) : Prop := sc.names.lookup x = some .local ∨ sc.names.lookup x = some .cell ∨ sc.names.lookup x = some .free
noncomputable def Loc (sc : Scope) (x : Str) : Prop := sc.names.lookup x = some .local ∨ sc.names.lookup x = some .cell
noncomputable def Look (env : Env) (h : Heap) (m : Str → Option Value) (x : Str) (u : Value) : Prop :=
  (env.kindOf x = some .local ∧ m x = some u) ∨ ((env.kindOf x = some .cell ∨ env.kindOf x = some .free) ∧ ∃ c, env.cells.lookup x = some c ∧ h.IsCell c (some u))

structure Cx.Ok (X : Cx) : Prop where
  mod : Mod X.K X.mg X.base
  kind : X.env.scope.kind = .function
  glob : X.env.globals = mainGlobals
  blt : X.env.builtins = builtinsNs
  above : X.s₀.heap.objs.size ≤ X.env.locals
  inj : ∀ x y c, X.env.cells.lookup x = some c → X.env.cells.lookup y = some c → x = y
  has : ∀ x, (X.env.kindOf x = some .cell ∨ X.env.kindOf x = some .free) → ∃ c, X.env.cells.lookup x = some c
  cab : ∀ x c, X.fn x = true → X.env.cells.lookup x = some c → X.s₀.heap.objs.size ≤ c
  hd : X.calm = true → X.A.handled = none
  frames : X.A.frames = some X.stack
  stk : X.stack = X.outer ∨ (X.stack = X.env :: X.outer ∧ X.env.frame = some X.env.locals)
  exf : ∀ b ∈ X.ex, b ≠ X.env.locals ∧ ∀ x c, X.env.cells.lookup x = some c → c ≠ b
  bs : ∀ b o, X.base.get? b = some o → X.s₀.heap.get? b = some o ∧ X.H₀ b = none
  bsz : X.base.objs.size ≤ X.s₀.heap.objs.size
  noex : ∀ b o, X.base.get? b = some o → b ∉ X.ex
  exfs : ∀ b ∈ X.ex, b ∉ X.fs
  funs : X.s₀.heap.FunFrames X.base X.outer
  frf : ∀ b ∈ X.fs, X.H₀ b = none

structure Inv (X : Cx) (pins : List (Addr × Obj)) (σ : List (Option V)) (H : Hp) (s : Shared) : Prop where
  ok : X.Ok
  os : s.os = X.s₀.os
  bare : AllBare s.gens
  base : Un X.fs X.ex X.H₀ H X.s₀.heap s.heap
  loc : ∃ m, s.heap.Ns X.env.locals m ∧ ∀ (i : Nat) (x : Str) (v : V), X.N[i]? = some x → σ[i]? = some (some v) → Vis X.env.scope x → ∃ u, RelV v u ∧ Look X.env s.heap m x u
  cell : ∀ x c, X.env.cells.lookup x = some c → ∃ v, s.heap.IsCell c v
  free : H X.env.locals = none
  freeC : ∀ x c, X.env.cells.lookup x = some c → H c = none
  pin : ∀ p ∈ X.pn ++ pins, s.heap.get? p.1 = some p.2 ∧ H p.1 = none ∧ p.1 ≠ X.env.locals ∧ p.1 ∉ X.fs ∧ ∀ v, p.2.data ≠ .cell v
  hok : HOk X.prog X.w H s.heap
  len : σ.length = X.N.length

section
variable {X : Cx} {pins : List (Addr × Obj)} {σ : List (Option V)} {H H' : Hp} {s : Shared} {h' : Heap}

theorem Cx.Ok.nofr (ok : X.Ok) {b : Addr} {o : Obj} (e : X.base.get? b = some o) : b ∉ X.fs := fun hb => by
  have := (ok.funs.mem hb).1
  rw [e] at this; cases this
theorem Inv.bs (I : Inv X pins σ H s) : ∀ b o, X.base.get? b = some o → s.heap.get? b = some o ∧ H b = none := fun b o e =>
  ⟨I.base.keep b o (I.ok.bs b o e).1 (I.ok.bs b o e).2 (I.ok.nofr e) (I.ok.noex b o e), I.base.free b o (I.ok.bs b o e).1 (I.ok.bs b o e).2 (I.ok.noex b o e)⟩
theorem Inv.bk (I : Inv X pins σ H s) : ∀ b o, X.base.get? b = some o → s.heap.get? b = some o := fun b o e => (I.bs b o e).1
theorem Inv.mod (I : Inv X pins σ H s) : Mod X.K X.mg X.base := I.ok.mod
theorem Inv.kIn (I : Inv X pins σ H s) : X.K.In s.heap := I.ok.mod.kin.keeps I.bk
theorem Inv.lt (I : Inv X pins σ H s) : X.env.locals < s.heap.objs.size := let ⟨_, hn, _⟩ := I.loc; hn.lt
theorem Inv.sz (I : Inv X pins σ H s) : X.s₀.heap.objs.size ≤ s.heap.objs.size := Nat.le_trans I.ok.above (Nat.le_of_lt I.lt)
theorem Inv.nofs (I : Inv X pins σ H s) {a : Addr} (h : s.heap.objs.size ≤ a) : a ∉ X.fs := fun hb => by
  obtain ⟨_, o, ho, _⟩ := I.ok.funs.mem hb
  exact absurd (Nat.lt_of_lt_of_le (Heap.lt_size ho) (Nat.le_trans I.sz h)) (Nat.lt_irrefl _)
theorem Inv.cne (I : Inv X pins σ H s) : ∀ x c, X.env.cells.lookup x = some c → c ≠ X.env.locals := fun x c e z => by
  obtain ⟨v, o, ho, hd⟩ := I.cell x c e
  obtain ⟨m, ⟨o', es, ep, ho', hd', _⟩, _⟩ := I.loc
  rw [z, ho'] at ho; cases ho; rw [hd'] at hd; cases hd
theorem Inv.funs (I : Inv X pins σ H s) : s.heap.FunFrames X.base X.outer := by
  have all : ∀ (l : List Env), (∀ b ∈ frs l, b ∈ X.fs) → X.s₀.heap.FunFrames X.base l → s.heap.FunFrames X.base l := by
    intro l
    induction l with
    | nil => intro _ _; trivial
    | cons env r ih =>
      intro hs hl
      obtain ⟨hk, ⟨L, o, hf, hn, ho, hd⟩, hr⟩ := hl
      have hL : L ∈ X.fs := hs L (by unfold frs; rw [List.filterMap_cons, hf]; exact List.mem_cons_self)
      obtain ⟨sl, e⟩ := I.base.slot L o ho (I.ok.frf L hL) hL fun z => I.ok.exfs L z hL
      exact ⟨hk, ⟨L, _, hf, hn, e, hd⟩, ih (fun b hb => hs b (by unfold frs; rw [List.filterMap_cons, hf]; exact List.mem_cons_of_mem _ hb)) hr⟩
  exact all X.outer (fun _ hb => hb) I.ok.funs

/-- the frames that run, for a call -/
theorem Inv.stack (I : Inv X pins σ H s) : s.heap.FunFrames X.base X.stack := by
  rcases I.ok.stk with e | ⟨e, hf⟩
  · rw [e]; exact I.funs
  · rw [e]
    obtain ⟨m, hn, _⟩ := I.loc
    refine .cons (by rw [I.ok.kind]; decide) hf hn ?_ I.funs
    exact Heap.get?_none_of_le (Nat.le_trans I.ok.bsz I.ok.above)
theorem Inv.stkSub (I : Inv X pins σ H s) : ∀ b ∈ frs X.stack, b ∈ X.env.locals :: X.fs := fun b hb => by
  rcases I.ok.stk with e | ⟨e, hf⟩
  · rw [e] at hb; exact List.mem_cons_of_mem _ hb
  · rw [e] at hb
    unfold frs at hb
    rw [List.filterMap_cons, hf] at hb
    exact hb
theorem Inv.stkFree (I : Inv X pins σ H s) : ∀ b ∈ frs X.stack, H b = none := fun b hb => by
  rcases List.mem_cons.mp (I.stkSub b hb) with e | hb
  · rw [e]; exact I.free
  · obtain ⟨_, o, ho, _⟩ := I.ok.funs.mem hb
    exact I.base.free b o ho (I.ok.frf b hb) fun z => I.ok.exfs b z hb

/-- THE STEP: the untracked objects but the frame and the records at ch are kept (the callers' frames up to slots), the frame's map is kept, the new abstract heap is held -/
theorem Inv.step {g' : Array GenState} {t' : Nat} {d' : Drawn} {ch : List Addr} (I : Inv X pins σ H s)
    (hch : ∀ b ∈ ch, (b ∈ X.ex ∨ X.s₀.heap.objs.size ≤ b) ∧ b ≠ X.env.locals ∧ (∀ x c, X.env.cells.lookup x = some c → c ≠ b) ∧ ∀ p ∈ X.pn ++ pins, p.1 ≠ b)
    (keep : ∀ b o, b ≠ X.env.locals → b ∉ X.fs → b ∉ ch → s.heap.get? b = some o → H b = none → h'.get? b = some o)
    (slot : ∀ b o, b ≠ X.env.locals → b ∈ X.fs → b ∉ ch → s.heap.get? b = some o → H b = none → ∃ sl, h'.get? b = some { o with slots := sl }) (free : ∀ b o, b ∉ ch → s.heap.get? b = some o → H b = none → H' b = none)
    (there : ∀ b o, b ∉ ch → s.heap.get? b = some o → ∃ o', h'.get? b = some o')
    (tups : ∀ b xs, H b = some (.tup xs) → H' b = some (.tup xs)) (frzs : ∀ b o u, H b = some (.frz o u) → H' b = some (.frz o u)) (tbls : ∀ b ps, H b = some (.tbl ps) → ∃ more, H' b = some (.tbl (ps ++ more)))
    (ns : ∀ m, s.heap.Ns X.env.locals m → h'.Ns X.env.locals m) (hok : HOk X.prog X.w H' h') (hg : AllBare g') :
    Inv X pins σ H' { s with heap := h', gens := g', drawn := d', toks := t' } := by
  have neL : ∀ b o, X.s₀.heap.get? b = some o → b ≠ X.env.locals := fun b o e => Nat.ne_of_lt (Nat.lt_of_lt_of_le (Heap.lt_size e) I.ok.above)
  have neC : ∀ b o, X.s₀.heap.get? b = some o → b ∉ X.ex → b ∉ ch := fun b o e hx hb => by
    rcases (hch b hb).1 with z | z
    · exact hx z
    · exact absurd (Nat.lt_of_lt_of_le (Heap.lt_size e) z) (Nat.lt_irrefl _)
  have cellK : ∀ x c, X.env.cells.lookup x = some c → ∀ v, s.heap.IsCell c v → h'.IsCell c v := fun x c e v ⟨o, ho, hd⟩ => by
    have nch : c ∉ ch := fun z => (hch c z).2.2.1 x c e rfl
    by_cases hc : c ∈ X.fs
    · obtain ⟨sl, q⟩ := slot c o (I.cne x c e) hc nch ho (I.freeC x c e)
      exact ⟨_, q, hd⟩
    · exact ⟨o, keep c o (I.cne x c e) hc nch ho (I.freeC x c e), hd⟩
  refine ⟨I.ok, I.os, hg, ⟨fun b o e n hb hx => ?_, fun b o e n hb hx => ?_, fun b o e n hx => ?_, fun b o e hx => ?_, fun b xs e => tups b xs (I.base.tups b xs e), fun b o xs e => frzs b o xs (I.base.frzs b o xs e), fun b ps e => ?_⟩, ?_, fun x c e => ?_, ?_, fun x c e => ?_, fun p hp => ?_, hok, I.len⟩
  · exact keep b o (neL b o e) hb (neC b o e hx) (I.base.keep b o e n hb hx) (I.base.free b o e n hx)
  · obtain ⟨sl, e1⟩ := I.base.slot b o e n hb hx
    obtain ⟨sl', e2⟩ := slot b _ (neL b o e) hb (neC b o e hx) e1 (I.base.free b o e n hx)
    exact ⟨sl', e2⟩
  · obtain ⟨o', e1⟩ := I.base.there b o e hx
    exact free b o' (neC b o e hx) e1 (I.base.free b o e n hx)
  · obtain ⟨o', e1⟩ := I.base.there b o e hx
    exact there b o' (neC b o e hx) e1
  · obtain ⟨m1, e1⟩ := I.base.tbls b ps e
    obtain ⟨m2, e2⟩ := tbls b _ e1
    exact ⟨m1 ++ m2, by rw [e2, Array.append_assoc]⟩
  · obtain ⟨m, hn, hl⟩ := I.loc
    refine ⟨m, ns m hn, fun i x v e1 e2 e3 => ?_⟩
    obtain ⟨u, r, l⟩ := hl i x v e1 e2 e3
    refine ⟨u, r, ?_⟩
    rcases l with l | ⟨k, c, e, z⟩
    · exact .inl l
    · exact .inr ⟨k, c, e, cellK x c e _ z⟩
  · obtain ⟨v, z⟩ := I.cell x c e
    exact ⟨v, cellK x c e v z⟩
  · obtain ⟨m, ⟨o, _, _, ho, _⟩, _⟩ := I.loc
    exact free _ o (fun z => (hch _ z).2.1 rfl) ho I.free
  · obtain ⟨v, o, ho, hd⟩ := I.cell x c e
    exact free c o (fun z => (hch c z).2.2.1 x c e rfl) ho (I.freeC x c e)
  · obtain ⟨e, n, ne, nf, d⟩ := I.pin p hp
    have nch : p.1 ∉ ch := fun z => (hch p.1 z).2.2.2 p hp rfl
    exact ⟨keep p.1 p.2 ne nf nch e n, free p.1 p.2 nch e n, ne, nf, d⟩
/-- .. where the frame's own object is kept too -/
theorem Inv.un {t' : Nat} (I : Inv X pins σ H s) (u : Un X.fs [] H H' s.heap h') (hok : HOk X.prog X.w H' h') : Inv X pins σ H' { s with heap := h', toks := t' } := by
  obtain ⟨m, ⟨o, es, ep, ho, r⟩, _⟩ := id I.loc
  obtain ⟨sl, hL⟩ := u.any ho I.free (by simp)
  exact I.step (g' := s.gens) (d' := s.drawn) (ch := []) (fun _ z => nomatch z) (fun b o _ hb _ e n => u.keep b o e n hb (by simp)) (fun b o _ hb _ e n => u.slot b o e n hb (by simp)) (fun b o _ e n => u.free b o e n (by simp)) (fun b o _ e => u.there b o e (by simp)) u.tups u.frzs u.tbls (fun m' hm => by
    obtain ⟨o', es', ep', ho', r'⟩ := hm
    rw [ho] at ho'; cases ho'
    exact ⟨_, es', ep', hL, r'⟩) hok I.bare
/-- behind a call (or a comprehension's block): the slots of this frame may have changed too, the records at ch may have turned -/
theorem Inv.call {g' : Array GenState} {t' : Nat} {d' : Drawn} {ch : List Addr} (I : Inv X pins σ H s) (u : Un (frs X.stack) ch H H' s.heap h') (hok : HOk X.prog X.w H' h') (hg : AllBare g')
    (hch : ∀ b ∈ ch, (b ∈ X.ex ∨ X.s₀.heap.objs.size ≤ b) ∧ b ≠ X.env.locals ∧ (∀ x c, X.env.cells.lookup x = some c → c ≠ b) ∧ ∀ p ∈ X.pn ++ pins, p.1 ≠ b) :
    Inv X pins σ H' { s with heap := h', gens := g', drawn := d', toks := t' } := by
  obtain ⟨m, ⟨o, es, ep, ho, r⟩, _⟩ := id I.loc
  obtain ⟨sl, hL⟩ := u.any ho I.free fun z => (hch _ z).2.1 rfl
  exact I.step (ch := ch) hch (fun b o hL hb hc e n => u.keep b o e n (fun z => (List.mem_cons.mp (I.stkSub b z)).elim hL hb) hc) (fun b o _ _ hc e n => u.any e n hc) (fun b o hc e n => u.free b o e n hc) (fun b o hc e => u.there b o e hc) u.tups u.frzs u.tbls (fun m' hm => by
    obtain ⟨o', es', ep', ho', r'⟩ := hm
    rw [ho] at ho'; cases ho'
    exact ⟨_, es', ep', hL, r'⟩) hok hg
/-- an untracked record of ours (an iterator) has turned -/
theorem Inv.turned {t' : Nat} {it : Addr} (I : Inv X pins σ H s) (k : ∀ b o, b ≠ it → s.heap.get? b = some o → h'.get? b = some o) (hn : H it = none) (hL : it ≠ X.env.locals)
    (h1 : it ∈ X.ex ∨ X.s₀.heap.objs.size ≤ it) (h2 : ∀ x c, X.env.cells.lookup x = some c → c ≠ it) (h3 : ∀ p ∈ X.pn ++ pins, p.1 ≠ it) : Inv X pins σ H { s with heap := h', toks := t' } := by
  have nit : ∀ b u, H b = some u → b ≠ it := fun b u e z => by rw [z, hn] at e; cases e
  refine I.step (g' := s.gens) (d' := s.drawn) (ch := [it]) (fun b hb => ?_) (fun b o _ _ hc e _ => k b o (fun z => hc (by simp [z])) e) (fun b o _ _ hc e _ => ⟨o.slots, k b o (fun z => hc (by simp [z])) e⟩) (fun _ _ _ _ n => n)
    (fun b o hc e => ⟨o, k b o (fun z => hc (by simp [z])) e⟩) (fun _ _ e => e) (fun _ _ _ e => e) (fun b ps e => ⟨#[], by rw [e]; simp⟩) (fun m hm => ?_) (fun b u e => ?_) I.bare
  · have e : b = it := by simpa using hb
    subst e
    exact ⟨h1, hL, h2, h3⟩
  · obtain ⟨o, es, ep, ho, r⟩ := hm
    exact ⟨o, es, ep, k _ o (Ne.symm hL) ho, r⟩
  · refine (I.hok b u e).stay (fun c v hc q => k c v ?_ q) (fun _ q => q) fun _ _ q => q
    rcases hc with z | z
    · rw [z]; exact nit b u e
    · exact nit c _ z
theorem Inv.tok (I : Inv X pins σ H s) (t : Nat) : Inv X pins σ H { s with toks := t } := I.un (h' := s.heap) (t' := t) Un.refl I.hok
/-- all objects kept -/
theorem Inv.kept {t' : Nat} (I : Inv X pins σ H s) (k : ∀ b u, s.heap.get? b = some u → h'.get? b = some u) : Inv X pins σ H { s with heap := h', toks := t' } := I.un (Un.kept k) (I.hok.kept k)
/-- a new object laid and tracked -/
theorem Inv.laid {a : Addr} {o : HO} {t' : Nat} (I : Inv X pins σ H s) (k : ∀ b u, s.heap.get? b = some u → h'.get? b = some u) (hp : s.heap.objs.size ≤ a) (new : ObjOk X.prog X.w (upd H a o) h' a o) :
    Inv X pins σ (upd H a o) { s with heap := h', toks := t' } := I.un (Un.laid k hp (I.hok.fresh hp)) (I.hok.laid k hp new)
/-- an object written -/
theorem Inv.write {x e : Addr} {o : HO} {t' : Nat} (I : Inv X pins σ H s) (mu : Mut (H x)) (he : e = x ∨ H e = some (.own x)) (k : ∀ b u, b ≠ e → s.heap.get? b = some u → h'.get? b = some u) (heo : ∃ u, h'.get? e = some u)
    (new : ObjOk X.prog X.w (upd H x o) h' x o) : Inv X pins σ (upd H x o) { s with heap := h', toks := t' } := I.un (Un.write mu he k heo) (I.hok.write mu he k heo new)
/-- forgetting slots, pins -/
theorem Inv.weak {σ' : List (Option V)} (I : Inv X pins σ H s) (hl : σ'.length = σ.length) (w : ∀ (i : Nat) v, σ'[i]? = some (some v) → σ[i]? = some (some v)) : Inv X pins σ' H s :=
  ⟨I.ok, I.os, I.bare, I.base, let ⟨m, hn, hl'⟩ := I.loc; ⟨m, hn, fun i x v e1 e2 e3 => hl' i x v e1 (w i v e2) e3⟩, I.cell, I.free, I.freeC, I.pin, I.hok, hl.trans I.len⟩
theorem Inv.pins_of {pins' : List (Addr × Obj)} (I : Inv X pins σ H s) (h : ∀ p ∈ pins', s.heap.get? p.1 = some p.2 ∧ H p.1 = none ∧ p.1 ≠ X.env.locals ∧ p.1 ∉ X.fs ∧ ∀ v, p.2.data ≠ .cell v) : Inv X pins' σ H s :=
  ⟨I.ok, I.os, I.bare, I.base, I.loc, I.cell, I.free, I.freeC, fun p hp => (List.mem_append.mp hp).elim (fun z => I.pin p (List.mem_append_left _ z)) (h p), I.hok, I.len⟩

theorem nodup_ix {N : List Str} (hN : N.Nodup) {i j : Nat} {x : Str} (a : N[i]? = some x) (b : N[j]? = some x) : i = j := by
  obtain ⟨h1, e1⟩ := List.getElem?_eq_some_iff.mp a
  obtain ⟨h2, e2⟩ := List.getElem?_eq_some_iff.mp b
  exact (List.getElem_inj hN).mp (e1.trans e2.symm)

/-- a name is stored; what changed -/
theorem store_ok2 {M : Model} {A : Around} {E : Value → Shared → Prop} {i : Nat} {x : Str} {v : V} {u : Value} {Q : Unit → Shared → Prop} (I : Inv X pins σ H s) (hN : X.N.Nodup) (hi : X.N[i]? = some x) (hx : Loc X.env.scope x) (r : RelV v u)
    (h : ∀ s', Inv X pins (σ.set i (some v)) H s' → (∃ a, Heap.SameBut a s.heap s'.heap ∧ (a = X.env.locals ∨ X.env.cells.lookup x = some a)) → Q () s') (hf : X.fn x = true ∨ X.env.scope.names.lookup x = some .local := by first | exact .inl rfl | exact .inr rfl | assumption) : wpAny M A (storeName X.env x u) Q E s := by
  obtain ⟨m, hn, hl⟩ := id I.loc
  have hcls : (X.env.scope.kind == .class || (X.env.scope.kind == .module && X.env.locals != X.env.globals)) = false := by rw [I.ok.kind]; rfl
  have hiσ : i < σ.length := by rw [I.len]; exact (List.getElem?_eq_some_iff.mp hi).1
  have cne := I.cne
  have tracked : ∀ {a : Addr} {h' : Heap}, (∃ o, s.heap.get? a = some o ∧ H a = none) → Heap.SameBut a s.heap h' → HOk X.prog X.w H h' := fun {a h'} ha hs b ob e => by
    obtain ⟨_, _, hfree⟩ := ha
    refine (I.hok b ob e).stay (fun c w' hc q => (hs.2 c ?_).trans q) (fun _ q => q) fun _ _ q => q
    rintro rfl
    rcases hc with rfl | hc
    · rw [hfree] at e; cases e
    · rw [hfree] at hc; cases hc
  rcases hx with hk | hk
  · refine wpAny_storeName_local hk hn (fun h' hn' hs => ?_) hcls
    obtain ⟨oL, _, _, hoL, _⟩ := id hn
    refine h _ ⟨I.ok, I.os, I.bare, ⟨fun b o e n hb hx => ?_, fun b o e n hb hx => ?_, I.base.free, fun b o e hx => ?_, I.base.tups, I.base.frzs, I.base.tbls⟩, ⟨_, hn', fun j y v' e1 e2 e3 => ?_⟩, fun y c e => ?_, I.free, I.freeC, fun p hp => ?_, tracked ⟨oL, hoL, I.free⟩ hs, by simpa using I.len⟩ ⟨_, hs, .inl rfl⟩
    · exact (hs.2 b (Nat.ne_of_lt (Nat.lt_of_lt_of_le (Heap.lt_size e) I.ok.above))).trans (I.base.keep b o e n hb hx)
    · obtain ⟨sl, e1⟩ := I.base.slot b o e n hb hx
      exact ⟨sl, (hs.2 b (Nat.ne_of_lt (Nat.lt_of_lt_of_le (Heap.lt_size e) I.ok.above))).trans e1⟩
    · obtain ⟨o', e1⟩ := I.base.there b o e hx
      exact ⟨o', (hs.2 b (Nat.ne_of_lt (Nat.lt_of_lt_of_le (Heap.lt_size e) I.ok.above))).trans e1⟩
    · by_cases hj : j = i
      · subst hj
        rw [hi] at e1; cases e1
        rw [List.getElem?_set_self hiσ] at e2
        cases e2
        exact ⟨u, r, .inl ⟨hk, by simp⟩⟩
      · rw [List.getElem?_set_ne (Ne.symm hj)] at e2
        obtain ⟨u', r', q⟩ := hl j y v' e1 e2 e3
        refine ⟨u', r', ?_⟩
        rcases q with ⟨k, e⟩ | ⟨k, c, e, z⟩
        · refine .inl ⟨k, ?_⟩
          have : y ≠ x := fun e => hj (nodup_ix hN e1 (e ▸ hi))
          simp [this, e]
        · exact .inr ⟨k, c, e, z.sameBut hs (cne y c e)⟩
    · obtain ⟨w', z⟩ := I.cell y c e
      exact ⟨w', z.sameBut hs (cne y c e)⟩
    · obtain ⟨e, n, ne, nf, d⟩ := I.pin p hp
      exact ⟨(hs.2 p.1 ne).trans e, n, ne, nf, d⟩
  · have hfn : X.fn x = true := by
      rcases hf with z | z
      · exact z
      · rw [z] at hk; cases hk
    obtain ⟨c, hc⟩ := I.ok.has x (.inl hk)
    obtain ⟨w', z⟩ := I.cell x c hc
    refine wpAny_storeName_cell I.ok.kind hk hc z (fun h' hc' hs => ?_)
    obtain ⟨oc, hoc, hocd⟩ := id z
    refine h { s with heap := h' } ⟨I.ok, I.os, I.bare, ⟨fun b o e n hb hx => ?_, fun b o e n hb hx => ?_, I.base.free, fun b o e hx => ?_, I.base.tups, I.base.frzs, I.base.tbls⟩, ⟨m, hn.sameBut hs (Ne.symm (cne x c hc)), fun j y v' e1 e2 e3 => ?_⟩, fun y c' e => ?_, I.free, I.freeC, fun p hp => ?_, tracked ⟨oc, hoc, I.freeC x c hc⟩ hs, by simpa using I.len⟩ ⟨c, hs, .inr hc⟩
    · exact (hs.2 b (Nat.ne_of_lt (Nat.lt_of_lt_of_le (Heap.lt_size e) (I.ok.cab x c hfn hc)))).trans (I.base.keep b o e n hb hx)
    · obtain ⟨sl, e1⟩ := I.base.slot b o e n hb hx
      exact ⟨sl, (hs.2 b (Nat.ne_of_lt (Nat.lt_of_lt_of_le (Heap.lt_size e) (I.ok.cab x c hfn hc)))).trans e1⟩
    · obtain ⟨o', e1⟩ := I.base.there b o e hx
      exact ⟨o', (hs.2 b (Nat.ne_of_lt (Nat.lt_of_lt_of_le (Heap.lt_size e) (I.ok.cab x c hfn hc)))).trans e1⟩
    · by_cases hj : j = i
      · subst hj
        rw [hi] at e1; cases e1
        rw [List.getElem?_set_self hiσ] at e2
        cases e2
        exact ⟨u, r, .inr ⟨.inl hk, c, hc, hc'⟩⟩
      · rw [List.getElem?_set_ne (Ne.symm hj)] at e2
        obtain ⟨u', r', q⟩ := hl j y v' e1 e2 e3
        refine ⟨u', r', ?_⟩
        rcases q with q | ⟨k, c', e, z'⟩
        · exact .inl q
        · refine .inr ⟨k, c', e, z'.sameBut hs ?_⟩
          rintro rfl
          exact hj (nodup_ix hN e1 (I.ok.inj _ _ _ e hc ▸ hi))
    · by_cases hcc : c' = c
      · subst hcc; exact ⟨_, hc'⟩
      · obtain ⟨w2, z2⟩ := I.cell y c' e
        exact ⟨w2, z2.sameBut hs hcc⟩
    · obtain ⟨e, n, ne, nf, d⟩ := I.pin p hp
      refine ⟨(hs.2 p.1 ?_).trans e, n, ne, nf, d⟩
      intro q
      rw [q, hoc] at e
      have q' : oc = p.2 := Option.some.inj e
      exact d w' (by rw [← q']; exact hocd)
theorem store_ok {M : Model} {A : Around} {E : Value → Shared → Prop} {i : Nat} {x : Str} {v : V} {u : Value} {Q : Unit → Shared → Prop} (I : Inv X pins σ H s) (hN : X.N.Nodup) (hi : X.N[i]? = some x) (hx : Loc X.env.scope x) (r : RelV v u)
    (h : ∀ s', Inv X pins (σ.set i (some v)) H s' → Q () s') (hf : X.fn x = true ∨ X.env.scope.names.lookup x = some .local := by first | exact .inl rfl | exact .inr rfl | assumption) : wpAny M A (storeName X.env x u) Q E s :=
  store_ok2 I hN hi hx r (fun s' I' _ => h s' I') hf
/-- behind a call or a block, the state as it is -/
theorem Inv.call' {s' : Shared} {ch : List Addr} (I : Inv X pins σ H s) (ho : s'.os = s.os) (u : Un (frs X.stack) ch H H' s.heap s'.heap) (hok : HOk X.prog X.w H' s'.heap) (hg : AllBare s'.gens)
    (hch : ∀ b ∈ ch, (b ∈ X.ex ∨ X.s₀.heap.objs.size ≤ b) ∧ b ≠ X.env.locals ∧ (∀ x c, X.env.cells.lookup x = some c → c ≠ b) ∧ ∀ p ∈ X.pn ++ pins, p.1 ≠ b) : Inv X pins σ H' s' := by
  obtain ⟨h', g', d', t', o'⟩ := s'
  have e : o' = s.os := ho
  subst e
  exact I.call (g' := g') (t' := t') (d' := d') u hok hg hch
end

/-! ### the judgements -/
/-- an exception: its class, its own dict's address (where it has one), the abstract heap behind it -/
noncomputable abbrev XK := Value → Option Addr → Hp → Prop
noncomputable abbrev St := List (Option V)
noncomputable abbrev VK := V → Hp → Prop
/-- an expression's reading; a test's; an argument list's -/
noncomputable abbrev TE := St → Hp → VK → Prop
noncomputable abbrev TT := St → Hp → (Bool → Hp → Prop) → Prop
noncomputable abbrev TA := St → Hp → (List V → Hp → Prop) → Prop
/-- what is wanted behind a statement -/
structure Ends where
  nx : St → Hp → Prop
  rt : VK
  bk : St → Hp → Prop := fun _ _ => False
  ct : St → Hp → Prop := fun _ _ => False
noncomputable abbrev TS := Ends → St → Hp → Prop

noncomputable def EP (X : Cx) (pins : List (Addr × Obj)) (σ : St) (Q : VK) (u : Value) (s' : Shared) : Prop := ∃ v H', Inv X pins σ H' s' ∧ RelV v u ∧ Q v H'
noncomputable def TP (X : Cx) (pins : List (Addr × Obj)) (σ : St) (Q : Bool → Hp → Prop) (b : Bool) (s' : Shared) : Prop := ∃ H', Inv X pins σ H' s' ∧ Q b H'
noncomputable def AP (X : Cx) (pins : List (Addr × Obj)) (σ : St) (Q : List V → Hp → Prop) (us : List Value) (s' : Shared) : Prop := ∃ vs H', Inv X pins σ H' s' ∧ Vals vs us ∧ Q vs H'
noncomputable def SP (X : Cx) (pins : List (Addr × Obj)) (D : Ends) (f : Flow) (s' : Shared) : Prop :=
  match f with
  | .next => ∃ σ' H', Inv X pins σ' H' s' ∧ D.nx σ' H'
  | .brk => ∃ σ' H', Inv X pins σ' H' s' ∧ D.bk σ' H'
  | .cont => ∃ σ' H', Inv X pins σ' H' s' ∧ D.ct σ' H'
  | .ret u => ∃ v σ' H', Inv X pins σ' H' s' ∧ RelV v u ∧ D.rt v H'

noncomputable def PE (X : Cx) (e : Expr) (t : TE) : Prop :=
  ∀ (pins : List (Addr × Obj)) (s : Shared) (σ : St) (H : Hp) (Q : VK), Inv X pins σ H s → t σ H Q → wpAny (model X.prog X.w) X.A (eval e X.env) (EP X pins σ Q) X.xe s
noncomputable def PT (X : Cx) (e : Expr) (t : TT) : Prop :=
  ∀ (pins : List (Addr × Obj)) (s : Shared) (σ : St) (H : Hp) (Q : Bool → Hp → Prop), Inv X pins σ H s → t σ H Q → wpAny (model X.prog X.w) X.A (isTrue e X.env (eval e X.env)) (TP X pins σ Q) X.xe s
/-- a test whatever its 'whole' is (and, or) -/
noncomputable def PW (X : Cx) (e : Expr) (t : TT) : Prop :=
  ∀ (whole : Sem Value) (pins : List (Addr × Obj)) (s : Shared) (σ : St) (H : Hp) (Q : Bool → Hp → Prop), Inv X pins σ H s → t σ H Q → wpAny (model X.prog X.w) X.A (isTrue e X.env whole) (TP X pins σ Q) X.xe s
theorem PW.pt {X : Cx} {e : Expr} {t : TT} (h : PW X e t) : PT X e t := h _
/-- an argument list (no star), from the left -/
noncomputable def PA (X : Cx) (es : List Expr) (t : TA) : Prop :=
  ∀ (pos : Pos) (pins : List (Addr × Obj)) (s : Shared) (σ : St) (H : Hp) (Q : List V → Hp → Prop), Inv X pins σ H s → t σ H Q → wpAny (model X.prog X.w) X.A (spliced (backTo pos (starEach es X.env))) (AP X pins σ Q) X.xe s
noncomputable def PS (X : Cx) (st : Stmt) (t : TS) : Prop :=
  ∀ (pins : List (Addr × Obj)) (s : Shared) (σ : St) (H : Hp) (D : Ends), Inv X pins σ H s → t D σ H → wpAny (model X.prog X.w) X.A (exec st X.env) (SP X pins D) X.xe s
noncomputable def PSs (X : Cx) (st : List Stmt) (t : TS) : Prop :=
  ∀ (pins : List (Addr × Obj)) (s : Shared) (σ : St) (H : Hp) (D : Ends), Inv X pins σ H s → t D σ H → wpAny (model X.prog X.w) X.A (execs st X.env) (SP X pins D) X.xe s
/-- weaken the end -/
theorem thn {α : Type} {t : Sem α} {Q Q' : α → Shared → Prop} {M : Model} {A : Around} {E : Value → Shared → Prop} {s : Shared} (h : wpAny M A t Q E s) (hQ : ∀ a s, Q a s → Q' a s) : wpAny M A t Q' E s := wpAny_mono h hQ fun _ _ x => x
end L2

namespace L2
open PySem PySem.Spec PyProof.Rows
section
variable {X : Cx}


/-! ### names and constants -/
noncomputable def tVar (i : Nat) : TE := fun σ H Q => ∃ v, σ[i]? = some (some v) ∧ Q v H
noncomputable def tC (v : V) : TE := fun _ H Q => Q v H
theorem pe_var {i : Nat} {x : Str} {pos : Pos} (hN : X.N[i]? = some x) (hv : Vis X.env.scope x) (hd : (x == ("__debug__" : Str)) = false := by decide) (hcd : (x == ("__classdict__" : Str)) = false := by decide) : PE X (.Name x pos) (tVar i) := by
  intro pins s σ H Q I h
  obtain ⟨v, e, h⟩ := h
  obtain ⟨m, hn, hl⟩ := I.loc
  obtain ⟨u, r, l⟩ := hl i x v hN e hv
  have fin : EP X pins σ Q u s := ⟨v, H, I, r, h⟩
  rcases l with ⟨hk, hm⟩ | ⟨hk, c, hc, hcell⟩
  · exact wpAny_Name (wpAny_loadName_local I.ok.kind hk hn hm fin) hd
  · rcases hk with hk | hk
    · exact wpAny_Name (wpAny_loadName_cell I.ok.kind hk hc hcell fin) hd
    · exact wpAny_Name (wpAny_loadName_free I.ok.kind hk hc hcell fin hcd) hd
theorem pe_int {i j pos} : PE X (.Constant (.int i) j pos) (tC (.int i)) := fun _ _ _ H _ I h => wpAny_Constant_int ⟨.int i, H, I.tok _, ⟨_, rfl⟩, h⟩
theorem pe_bl {b j pos} : PE X (.Constant (.bool b) j pos) (tC (.bl b)) := fun _ _ _ H _ I h => Constant_bool ⟨.bl b, H, I, rfl, h⟩
theorem pe_non {j pos} : PE X (.Constant .none j pos) (tC .non) := fun _ _ _ H _ I h => Constant_none ⟨.non, H, I, rfl, h⟩

/-- a global name of the def -/
noncomputable def Gl (X : Cx) (x : Str) : Prop := X.env.kindOf x = some .globalImplicit
theorem ld_glob {E : Value → Shared → Prop} {pins : List (Addr × Obj)} {s : Shared} {σ : St} {H : Hp} {x : Str} {u : Value} {pos : Pos} {Q : Value → Shared → Prop} (I : Inv X pins σ H s) (hg : Gl X x) (hm : X.mg x = some u) (h : Q u s)
    (hd : (x == ("__debug__" : Str)) = false := by decide) : wpAny (model X.prog X.w) X.A (eval (.Name x pos) X.env) Q E s :=
  Calls.Name_function_global I.ok.kind hg (Calls.loadGlobal_global (by rw [I.ok.glob]; exact I.mod.glob.keeps I.bk) hm h) hd
theorem ld_blt {E : Value → Shared → Prop} {pins : List (Addr × Obj)} {s : Shared} {σ : St} {H : Hp} {x : Str} {u : Value} {pos : Pos} {Q : Value → Shared → Prop} (I : Inv X pins σ H s) (hg : Gl X x) (hm : X.mg x = none) (hv : bootBuiltins x = some u) (h : Q u s)
    (hn : x ≠ "__name__" := by decide) (hd : (x == ("__debug__" : Str)) = false := by decide) : wpAny (model X.prog X.w) X.A (eval (.Name x pos) X.env) Q E s := by
  obtain ⟨mb, h1, h2⟩ := I.mod.blt
  exact Calls.Name_function_global I.ok.kind hg (Calls.loadGlobal_builtin (by rw [I.ok.glob]; exact I.mod.glob.keeps I.bk) hm (by rw [I.ok.blt]; exact h1.keeps I.bk) ((h2 x hn).trans hv) h) hd
/-- a module's constant, a class, a function, as a value -/
theorem pe_glob {x : Str} {v : V} {u : Value} {pos : Pos} (hg : Gl X x) (hm : X.mg x = some u) (r : RelV v u) (hd : (x == ("__debug__" : Str)) = false := by decide) : PE X (.Name x pos) (tC v) :=
  fun _ _ _ H _ I h => ld_glob I hg hm ⟨v, H, I, r, h⟩ hd

/-! ### arithmetic -/
variable {a b : Expr} {ta tb : TE} {pos : Pos}

/-! ### comparisons -/
/-- a comparison as a value, as a test -/
noncomputable def tB (t : TE) : TT := fun σ H Q => t σ H fun x H1 => ∃ c, x = .bl c ∧ Q c H1
/-- an expression whose value is a bool, as a test -/
theorem pt_val {e : Expr} {t : TE} (h : PE X e t) (he : ∀ whole, isTrue e X.env whole = (do let v ← whole; standAt e.pos; holding [v] (truthy v)) := by intro _; rfl) : PT X e (tB t) := by
  intro pins s σ H Q I hw
  refine isTrue_plain (thn (h pins s σ H _ I hw) fun v s1 ⟨x, H1, I1, r1, q1⟩ => ?_) (he _)
  obtain ⟨d, rfl, q⟩ := q1
  cases r1
  exact wpAny_truthy_bool ⟨H1, I1, q⟩

/-! ### and, or, not -/
variable {tA tB' : TT} {rest : List Expr}
noncomputable def tAnd (t u : TT) : TT := fun σ H Q => t σ H fun c H1 => if c = true then u σ H1 Q else Q false H1
noncomputable def tOr (t u : TT) : TT := fun σ H Q => t σ H fun c H1 => if c = true then Q true H1 else u σ H1 Q
noncomputable def tNot (t : TT) : TT := fun σ H Q => t σ H fun c H1 => Q (!c) H1
theorem pw_and1 (ha : PT X a tA) : PW X (.BoolOp .And [a] pos) tA := by
  intro wh pins s σ H Q I h
  refine isTrue_and (thn (ha pins s σ H Q I h) fun c s1 e => ?_)
  cases c with
  | true => exact isTrue_and_nil e
  | false => exact e
theorem pw_or1 (ha : PT X a tA) : PW X (.BoolOp .Or [a] pos) tA := by
  intro wh pins s σ H Q I h
  refine isTrue_or (thn (ha pins s σ H Q I h) fun c s1 e => ?_)
  cases c with
  | false => exact isTrue_or_nil e
  | true => exact e
theorem pw_and (ha : PT X a tA) (hb : PW X (.BoolOp .And (b :: rest) pos) tB') : PW X (.BoolOp .And (a :: b :: rest) pos) (tAnd tA tB') := by
  intro wh pins s σ H Q I h
  refine isTrue_and (thn (ha pins s σ H _ I h) fun c s1 ⟨H1, I1, q1⟩ => ?_)
  cases c with
  | true => exact hb wh pins s1 σ H1 Q I1 q1
  | false => exact ⟨H1, I1, q1⟩
theorem pw_or (ha : PT X a tA) (hb : PW X (.BoolOp .Or (b :: rest) pos) tB') : PW X (.BoolOp .Or (a :: b :: rest) pos) (tOr tA tB') := by
  intro wh pins s σ H Q I h
  refine isTrue_or (thn (ha pins s σ H _ I h) fun c s1 ⟨H1, I1, q1⟩ => ?_)
  cases c with
  | true => exact ⟨H1, I1, q1⟩
  | false => exact hb wh pins s1 σ H1 Q I1 q1
theorem pt_not (ha : PT X a tA) : PT X (.UnaryOp .Not a pos) (tNot tA) := by
  intro pins s σ H Q I h
  exact isTrue_not (ha pins s σ H (fun c H1 => Q (!c) H1) I h)
/-- .. as values (bools) -/
noncomputable def tAndV (ta tb : TE) : TE := fun σ H Q => ta σ H fun x H1 => ∃ c, x = .bl c ∧ if c = true then tb σ H1 Q else Q (.bl false) H1
noncomputable def tOrV (ta tb : TE) : TE := fun σ H Q => ta σ H fun x H1 => ∃ c, x = .bl c ∧ if c = true then Q (.bl true) H1 else tb σ H1 Q
noncomputable def tNotV (ta : TE) : TE := fun σ H Q => ta σ H fun x H1 => ∃ c, x = .bl c ∧ Q (.bl (!c)) H1
theorem pe_one {op} {t : TE} (h : PE X a t) : PE X (.BoolOp op [a] pos) t := fun pins s σ H Q I hw => BoolOp_one (h pins s σ H Q I hw)
theorem pe_and (ha : PE X a ta) (hb : PE X (.BoolOp .And (b :: rest) pos) tb) : PE X (.BoolOp .And (a :: b :: rest) pos) (tAndV ta tb) := by
  intro pins s σ H Q I h
  refine BoolOp_and (thn (ha pins s σ H _ I h) fun v s1 ⟨x, H1, I1, r1, q1⟩ => ?_)
  obtain ⟨c, rfl, q1⟩ := q1
  cases r1
  refine wpAny_truthy_bool ?_
  cases c with
  | true => exact hb pins s1 σ H1 Q I1 q1
  | false => exact ⟨.bl false, H1, I1, rfl, q1⟩
theorem pe_or (ha : PE X a ta) (hb : PE X (.BoolOp .Or (b :: rest) pos) tb) : PE X (.BoolOp .Or (a :: b :: rest) pos) (tOrV ta tb) := by
  intro pins s σ H Q I h
  refine BoolOp_or (thn (ha pins s σ H _ I h) fun v s1 ⟨x, H1, I1, r1, q1⟩ => ?_)
  obtain ⟨c, rfl, q1⟩ := q1
  cases r1
  refine wpAny_truthy_bool ?_
  cases c with
  | false => exact hb pins s1 σ H1 Q I1 q1
  | true => exact ⟨.bl true, H1, I1, rfl, q1⟩
theorem pe_not (ha : PE X a ta) : PE X (.UnaryOp .Not a pos) (tNotV ta) := by
  intro pins s σ H Q I h
  refine UnaryOp_ (thn (ha pins s σ H _ I h) fun v s1 ⟨x, H1, I1, r1, q1⟩ => ?_)
  obtain ⟨c, rfl, q1⟩ := q1
  cases r1
  exact not_of (wpAny_truthy_bool ⟨.bl (!c), H1, I1, rfl, q1⟩)
/-- a if t else b -/
noncomputable def tIf (t : TT) (ta tb : TE) : TE := fun σ H Q => t σ H fun c H1 => if c = true then ta σ H1 Q else tb σ H1 Q
theorem pe_ifExp {c : Expr} (hc : PT X c tA) (ha : PE X a ta) (hb : PE X b tb) : PE X (.IfExp c a b pos) (tIf tA ta tb) := by
  intro pins s σ H Q I h
  refine wpAny_IfExp (thn (hc pins s σ H _ I h) fun d s1 ⟨H1, I1, q1⟩ => ?_)
  cases d with
  | true => exact ha pins s1 σ H1 Q I1 q1
  | false => exact hb pins s1 σ H1 Q I1 q1
end
end L2

namespace L2
open PySem PySem.Spec PyProof.Rows

/-! ### a list, a tuple that is read: tracked, frozen, or an object of the module -/
noncomputable def SqL (K : PySem.W.Frag) (H : Hp) (a : Addr) (xs : List V) : Prop :=
  Rd H a (.lst xs) ∨
    ∃ (o : Obj) (its : Array Value) (n : Nat), K.lookup a = some o ∧ o.cls = .type "list" ∧ o.dict = none ∧ o.data = .seq its n ∧ its.size ≤ sizeLine ∧ Vals xs its.toList
noncomputable def SqT (K : PySem.W.Frag) (H : Hp) (a : Addr) (xs : List V) : Prop :=
  Rd H a (.tup xs) ∨
    ∃ (o : Obj) (its : Array Value) (n : Nat), K.lookup a = some o ∧ o.cls = .type "tuple" ∧ o.data = .seq its n ∧ its.size ≤ sizeLine ∧ Vals xs its.toList
noncomputable def absV : Value → Option V
  | .none => some .non
  | .bool b => some (.bl b)
  | .int i _ => some (.int i)
  | .str x _ => some (.str x)
  | .bytes b _ => some (.byt b)
  | .float b _ => some (.flt b)
  | .ref a => some (.ref a)
  | .type n => some (.ty n)
  | _ => none
theorem RelV.abs {x : V} {u : Value} (r : RelV x u) : absV u = some x := by
  cases x with
  | non => cases r; rfl
  | bl _ => cases r; rfl
  | int _ => obtain ⟨t, rfl⟩ := r; rfl
  | str _ => obtain ⟨t, rfl⟩ := r; rfl
  | byt _ => obtain ⟨t, rfl⟩ := r; rfl
  | flt _ => obtain ⟨t, rfl⟩ := r; rfl
  | ref _ => cases r; rfl
  | ty _ => cases r; rfl
theorem RelV.inj {x y : V} {u : Value} (r : RelV x u) (q : RelV y u) : x = y := Option.some.inj (r.abs.symm.trans q.abs)
theorem Vals.inj : ∀ {xs ys : List V} {us : List Value}, Vals xs us → Vals ys us → xs = ys
  | _, _, _, .nil, .nil => rfl
  | _, _, _, .cons r t, .cons r' t' => by rw [r.inj r', Vals.inj t t']
section
variable {X : Cx} {pins : List (Addr × Obj)} {σ : St} {H : Hp} {s : Shared} {a : Addr} {xs ys : List V}
theorem SqL.of {K : PySem.W.Frag} (h : H a = some (.lst xs)) : SqL K H a xs := .inl (.inl h)
theorem SqT.of {K : PySem.W.Frag} (h : H a = some (.tup xs)) : SqT K H a xs := .inl (.inl h)
theorem Inv.list (I : Inv X pins σ H s) (h : SqL X.K H a xs) : ∃ its : List Value, Vals xs its ∧ PlainL s.heap a its.toArray ∧ xs.length ≤ sizeLine := by
  rcases h with h | ⟨o, its, n, hk, hc, hd, hs, hz, r⟩
  · obtain ⟨z, its, n, r, e⟩ := h.ok I.hok
    exact ⟨its, r, ⟨_, n, e, rfl, rfl, rfl⟩, z⟩
  · refine ⟨its.toList, r, ⟨o, n, I.kIn a o hk, hc, hd, by simpa using hs⟩, ?_⟩
    have e := r.length
    simp only [Array.length_toList] at e
    omega
theorem Inv.tuple (I : Inv X pins σ H s) (h : SqT X.K H a xs) : ∃ its : List Value, Vals xs its ∧ IsTup s.heap a its.toArray ∧ xs.length ≤ sizeLine := by
  rcases h with h | ⟨o, its, n, hk, hc, hs, hz, r⟩
  · obtain ⟨z, its, r, p⟩ := h.ok I.hok
    exact ⟨its, r, p, z⟩
  · refine ⟨its.toList, r, ⟨o, I.kIn a o hk, hc, n, by simpa using hs⟩, ?_⟩
    have e := r.length
    simp only [Array.length_toList] at e
    omega
theorem Inv.list_inj (I : Inv X pins σ H s) (h : SqL X.K H a xs) (h' : SqL X.K H a ys) : xs = ys := by
  obtain ⟨its, r, ⟨o, n, e, _, _, d⟩, _⟩ := I.list h
  obtain ⟨its', r', ⟨o', n', e', _, _, d'⟩, _⟩ := I.list h'
  rw [e] at e'; cases e'
  rw [d] at d'
  injection d' with d1 _
  have : its = its' := by simpa using congrArg Array.toList d1
  subst this
  exact r.inj r'
end

/-! ### another wish about exceptions -/
noncomputable abbrev Cx.wish (X : Cx) (E : Value → Shared → Prop) : Cx := { X with xe := E }
/-- no exception leaves -/
noncomputable abbrev Cx.nox (X : Cx) : Cx := X.wish fun _ _ => False
theorem Cx.Ok.wish {X : Cx} (ok : X.Ok) (E : Value → Shared → Prop) : (X.wish E).Ok :=
  ⟨ok.mod, ok.kind, ok.glob, ok.blt, ok.above, ok.inj, ok.has, ok.cab, ok.hd, ok.frames, ok.stk, ok.exf, ok.bs, ok.bsz, ok.noex, ok.exfs, ok.funs, ok.frf⟩
theorem Cx.Ok.unwish {X : Cx} {E : Value → Shared → Prop} (ok : (X.wish E).Ok) : X.Ok :=
  ⟨ok.mod, ok.kind, ok.glob, ok.blt, ok.above, ok.inj, ok.has, ok.cab, ok.hd, ok.frames, ok.stk, ok.exf, ok.bs, ok.bsz, ok.noex, ok.exfs, ok.funs, ok.frf⟩
section
variable {X : Cx} {pins : List (Addr × Obj)} {σ : St} {H : Hp} {s : Shared} {E : Value → Shared → Prop}
theorem Inv.wish (I : Inv X pins σ H s) (E : Value → Shared → Prop) : Inv (X.wish E) pins σ H s := ⟨I.ok.wish E, I.os, I.bare, I.base, I.loc, I.cell, I.free, I.freeC, I.pin, I.hok, I.len⟩
theorem Inv.unwish (I : Inv (X.wish E) pins σ H s) : Inv X pins σ H s := ⟨I.ok.unwish, I.os, I.bare, I.base, I.loc, I.cell, I.free, I.freeC, I.pin, I.hok, I.len⟩
theorem SP.unwish {D : Ends} {f : Flow} {s' : Shared} (h : SP (X.wish E) pins D f s') : SP X pins D f s' := by
  cases f with
  | next => obtain ⟨σ', H', I, q⟩ := h; exact ⟨σ', H', I.unwish, q⟩
  | brk => obtain ⟨σ', H', I, q⟩ := h; exact ⟨σ', H', I.unwish, q⟩
  | cont => obtain ⟨σ', H', I, q⟩ := h; exact ⟨σ', H', I.unwish, q⟩
  | ret u => obtain ⟨v, σ', H', I, r, q⟩ := h; exact ⟨v, σ', H', I.unwish, r, q⟩
theorem PSs.nox {st : List Stmt} {t : TS} (h : PSs X.nox st t) : PSs X st t := fun pins s σ H D I hw =>
  wpAny_mono (h pins s σ H D (I.wish _) hw) (fun _ _ q => q.unwish) fun _ _ z => False.elim z
end

/-! ### blocks and small statements -/
section
variable {X : Cx} {st : Stmt} {rest : List Stmt} {t u : TS} {e : Expr} {te : TE} {pos : Pos}
noncomputable def tNext : TS := fun D σ H => D.nx σ H
noncomputable def tSeq (t u : TS) : TS := fun D σ H => t { D with nx := u D } σ H
theorem pss_nil : PSs X [] tNext := fun _ _ σ H _ I h => wpAny_execs_nil ⟨σ, H, I, h⟩
theorem pss_cons (h1 : PS X st t) (h2 : PSs X rest u) : PSs X (st :: rest) (tSeq t u) := by
  intro pins s σ H D I h
  refine wpAny_execs_cons (thn (h1 pins s σ H { D with nx := u D } I h) fun f s1 q => ?_)
  cases f with
  | next =>
    obtain ⟨σ', H', I', q⟩ := q
    exact h2 pins s1 σ' H' D I' q
  | ret v => exact q
  | brk => exact q
  | cont => exact q
theorem pss_one (h1 : PS X st t) : PSs X [st] t := by
  intro pins s σ H D I h
  refine wpAny_execs_cons (thn (h1 pins s σ H D I h) fun f s1 q => ?_)
  cases f with
  | next => exact wpAny_execs_nil q
  | ret v => exact q
  | brk => exact q
  | cont => exact q
noncomputable def tCont : TS := fun D σ H => D.ct σ H
theorem ps_continue : PS X (.Continue pos) tCont := fun _ _ σ H _ I h => wpAny_Continue ⟨σ, H, I, h⟩
/-- in a def's body nothing is shown -/
theorem Inv.quiet {pins : List (Addr × Obj)} {σ : St} {H : Hp} {s : Shared} (I : Inv X pins σ H s) : interactive X.env = false := by simp [interactive, I.ok.kind]
/-- an expression whose value is dropped -/
noncomputable def tDrop (te : TE) : TS := fun D σ H => te σ H fun _ H1 => D.nx σ H1
theorem ps_expr (he : PE X e te) (hs : swapsWith e none pos.line X.env = pure false := by rfl) : PS X (.Expr e pos) (tDrop te) := by
  intro pins s σ H D I h
  exact wpAny_Expr_any (thn (he pins s σ H _ I h) fun v s1 ⟨x, H1, I1, r1, q1⟩ => ⟨σ, H1, I1, q1⟩) I.quiet hs
noncomputable def tRet (te : TE) : TS := fun D σ H => te σ H D.rt
theorem ps_ret (he : PE X e te) : PS X (.Return (some e) pos) (tRet te) := by
  intro pins s σ H D I h
  exact wpAny_Return_some (thn (he pins s σ H _ I h) fun v s1 ⟨x, H1, I1, r1, q1⟩ => ⟨x, σ, H1, I1, r1, q1⟩)
noncomputable def tIfS (c : TT) (t u : TS) : TS := fun D σ H => c σ H fun b H1 => if b = true then t D σ H1 else u D σ H1
theorem ps_if {c : Expr} {a b : List Stmt} {tc : TT} (hc : PT X c tc) (ha : PSs X a t) (hb : PSs X b u) : PS X (.If c a b pos) (tIfS tc t u) := by
  intro pins s σ H D I h
  refine wpAny_If (thn (hc pins s σ H _ I h) fun d s1 ⟨H1, I1, q1⟩ => ?_)
  cases d with
  | true => exact ha pins s1 σ H1 D I1 q1
  | false => exact hb pins s1 σ H1 D I1 q1
end

/-! ### targets -/
noncomputable abbrev TG := V → St → Hp → (St → Hp → Prop) → Prop
noncomputable abbrev TGs := List V → St → Hp → (St → Hp → Prop) → Prop
noncomputable def PG (X : Cx) (target : Expr) (t : TG) : Prop :=
  ∀ (pins : List (Addr × Obj)) (s : Shared) (σ : St) (H : Hp) (v : V) (u : Value) (Q : St → Hp → Prop), Inv X pins σ H s → RelV v u → t v σ H Q →
    wpAny (model X.prog X.w) X.A (assign target X.env u) (fun _ s' => ∃ σ' H', Inv X pins σ' H' s' ∧ Q σ' H') X.xe s
/-- several targets, one after another -/
noncomputable def PGs (X : Cx) (ts : List Expr) (t : TGs) : Prop :=
  ∀ (pins : List (Addr × Obj)) (s : Shared) (σ : St) (H : Hp) (vs : List V) (us : List Value) (Q : St → Hp → Prop), Inv X pins σ H s → Vals vs us → t vs σ H Q →
    wpAny (model X.prog X.w) X.A (assignInOrder ((assignEach ts X.env).map (·.2)) us) (fun _ s' => ∃ σ' H', Inv X pins σ' H' s' ∧ Q σ' H') X.xe s
/-- o[i] = v, by values -/
noncomputable abbrev TSet := V → V → V → Hp → (Hp → Prop) → Prop
noncomputable def PSet (X : Cx) (t : TSet) : Prop :=
  ∀ (pins : List (Addr × Obj)) (s : Shared) (σ : St) (H : Hp) (o i v : V) (ov iv u : Value) (Q : Hp → Prop), Inv X pins σ H s → RelV o ov → RelV i iv → RelV v u → t o i v H Q →
    wpAny (model X.prog X.w) X.A (setItem ov iv u) (fun _ s' => ∃ H', Inv X pins σ H' s' ∧ Q H') X.xe s
/-- a op= b, by values -/
noncomputable abbrev TIp := V → V → Hp → VK → Prop
noncomputable def PIp (X : Cx) (op : Operator) (t : TIp) : Prop :=
  ∀ (pins : List (Addr × Obj)) (s : Shared) (σ : St) (H : Hp) (x y : V) (v u : Value) (Q : VK), Inv X pins σ H s → RelV x v → RelV y u → t x y H Q →
    wpAny (model X.prog X.w) X.A (inplaceOp op v u) (EP X pins σ Q) X.xe s
section
variable {X : Cx} {pos : Pos}
noncomputable def gName (i : Nat) : TG := fun v σ H Q => Q (σ.set i (some v)) H
theorem pg_name {i : Nat} {x : Str} (hN : X.N.Nodup) (hi : X.N[i]? = some x) (hx : Loc X.env.scope x) (hf : X.fn x = true ∨ X.env.scope.names.lookup x = some .local := by first | exact .inl rfl | exact .inr rfl | assumption) : PG X (.Name x pos) (gName i) := by
  intro pins s σ H v u Q I r h
  exact wpAny_assign_Name (store_ok I hN hi hx r (fun s' I' => ⟨_, H, I', h⟩) hf)
noncomputable def gNil : TGs := fun vs σ H Q => vs = [] ∧ Q σ H
noncomputable def gCons (t : TG) (u : TGs) : TGs := fun vs σ H Q => ∃ v r, vs = v :: r ∧ t v σ H fun σ' H' => u r σ' H' Q
theorem pgs_nil : PGs X [] gNil := by
  intro pins s σ H vs us Q I r h
  obtain ⟨e, h⟩ := h
  subst e
  cases r
  exact assignInOrder_nil ⟨σ, H, I, h⟩
theorem pgs_cons {e : Expr} {es : List Expr} {t : TG} {u : TGs} (h1 : PG X e t) (h2 : PGs X es u)
    (hs : (assignEach (e :: es) X.env).map (·.2) = assign e X.env :: (assignEach es X.env).map (·.2) := by rfl) : PGs X (e :: es) (gCons t u) := by
  intro pins s σ H vs us Q I r h
  obtain ⟨v, vr, e1, h⟩ := h
  subst e1
  cases r with
  | cons r rr =>
    rw [hs]
    refine assignInOrder_cons (thn (h1 pins s σ H _ _ _ I r h) fun _ s1 ⟨σ1, H1, I1, q1⟩ => ?_)
    exact h2 pins s1 σ1 H1 _ _ Q I1 rr q1
/-- (a, b, ..) = a tuple of that length -/
noncomputable def gTup (K : PySem.W.Frag) (n : Nat) (t : TGs) : TG := fun v σ H Q => ∃ a xs, v = .ref a ∧ SqT K H a xs ∧ xs.length = n ∧ t xs σ H Q
theorem pg_tup {es : List Expr} {k : Nat} {t : TGs} {n : Nat} (hc : X.calm = true) (h : PGs X es t)
    (hn : (assignEach es X.env).length = n := by rfl) (hst : (assignEach es X.env).findIdx? (·.1) = none := by rfl) : PG X (.Tuple es k pos) (gTup X.K n t) := by
  intro pins s σ H v u Q I r hw
  obtain ⟨a, xs, e1, hq, hl, hw⟩ := hw
  subst e1
  cases r
  obtain ⟨its, rv, ht, hz⟩ := I.tuple hq
  refine assign_Tuple_tuple (I.ok.hd hc) ht (by simp [hn, ← hl, rv.length]) hst fun h' hx => ?_
  have I1 : Inv X pins σ H { s with heap := h' } := I.kept (t' := s.toks) fun b o e => hx b o (Nat.ne_of_lt (Heap.lt_size e)) e
  exact h pins _ σ H xs _ Q I1 (by simpa using rv) hw
/-- o[i] = .. -/
noncomputable def gSub (to ti : TE) (t : TSet) : TG := fun v σ H Q => to σ H fun o H1 => ti σ H1 fun i H2 => t o i v H2 fun H3 => Q σ H3
theorem pg_sub {o i : Expr} {to ti : TE} {t : TSet} (ho : PE X o to) (hi : PE X i ti) (hs : PSet X t)
    (ha : ∀ v, assign (.Subscript o i pos) X.env v = (do
      let ov ← holding [v] (eval o X.env)
      let iv ← holding [v, ov] (eval i X.env)
      standAt pos
      holding [v, ov, iv] (setItem ov iv v)
      release [v, ov, iv] []) := by intro _; rfl) : PG X (.Subscript o i pos) (gSub to ti t) := by
  intro pins s σ H v u Q I r h
  rw [ha]
  refine wpAny_bind (wpAny_holding (thn (ho pins s σ H _ I h) fun ov s1 ⟨x, H1, I1, r1, q1⟩ => ?_))
  refine wpAny_bind (wpAny_holding (thn (hi pins s1 σ H1 _ I1 q1) fun iv s2 ⟨y, H2, I2, r2, q2⟩ => ?_))
  refine wpAny_bind (wpAny_standAt (wpAny_bind (wpAny_holding (thn (hs pins s2 σ H2 x y v ov iv u _ I2 r1 r2 r q2) fun _ s3 ⟨H3, I3, q3⟩ => ?_))))
  exact wpAny_release ⟨σ, H3, I3, q3⟩
/-- target = value -/
noncomputable def tAsg (te : TE) (g : TG) : TS := fun D σ H => te σ H fun x H1 => g x σ H1 D.nx
theorem ps_asg {tg e : Expr} {te : TE} {g : TG} (he : PE X e te) (hg : PG X tg g) (hs : swapsWithSole [tg] e pos.line X.env = pure false := by rfl) (hw : swappedStores [tg] e X.env = pure none := by rfl)
    (h1 : (assignEach [tg] X.env).map (·.2) = [assign tg X.env] := by rfl) : PS X (.Assign [tg] e pos) (tAsg te g) := by
  intro pins s σ H D I h
  refine wpAny_Assign_stores (thn (he pins s σ H _ I h) fun v s1 ⟨x, H1, I1, r1, q1⟩ => ?_) hs hw
  rw [h1]
  exact thn (hg pins s1 σ H1 x v _ I1 r1 q1) fun _ s2 q => q
/-- name = value -/
theorem ps_set {i : Nat} {x : Str} {e : Expr} {te : TE} {pos' : Pos} (hN : X.N.Nodup) (hi : X.N[i]? = some x) (hx : Loc X.env.scope x) (he : PE X e te) (hs : swapsWith e (some (.Name x pos')) pos.line X.env = pure false := by rfl) (hf : X.fn x = true ∨ X.env.scope.names.lookup x = some .local := by first | exact .inl rfl | exact .inr rfl | assumption) :
    PS X (.Assign [.Name x pos'] e pos) (tAsg te (gName i)) := by
  intro pins s σ H D I h
  refine wpAny_Assign_Name (thn (he pins s σ H _ I h) fun v s1 ⟨y, H1, I1, r1, q1⟩ => ?_) hs
  exact store_ok I1 hN hi hx r1 (fun s2 I2 => ⟨_, H1, I2, q1⟩) hf
/-- name op= e -/
noncomputable def tAug (i : Nat) (te : TE) (ti : TIp) : TS := fun D σ H => ∃ x, σ[i]? = some (some x) ∧ te σ H fun y H1 => ti x y H1 fun z H2 => D.nx (σ.set i (some z)) H2
theorem ps_aug {i : Nat} {x : Str} {e : Expr} {te : TE} {op : Operator} {ti : TIp} {pos' : Pos} (hN : X.N.Nodup) (hi : X.N[i]? = some x) (hx : Loc X.env.scope x) (he : PE X e te) (ho : PIp X op ti) (hf : X.fn x = true ∨ X.env.scope.names.lookup x = some .local := by first | exact .inl rfl | exact .inr rfl | assumption) :
    PS X (.AugAssign (.Name x pos') op e pos) (tAug i te ti) := by
  intro pins s σ H D I h
  obtain ⟨v, e1, h⟩ := h
  obtain ⟨m, hn, hl⟩ := I.loc
  have vis : Vis X.env.scope x := by rcases hx with k | k; exact .inl k; exact .inr (.inl k)
  obtain ⟨u, r, l⟩ := hl i x v hi e1 vis
  refine wpAny_AugAssign_Name ?_
  have go : wpAny (model X.prog X.w) X.A (eval e X.env) (fun w s₂ => wpAny (model X.prog X.w) X.A (inplaceOp op u w) (fun r s₃ => wpAny (model X.prog X.w) X.A (storeName X.env x r) (fun _ => SP X pins D .next) X.xe s₃) X.xe s₂) X.xe s := by
    refine thn (he pins s σ H _ I h) fun w s1 ⟨y, H1, I1, r1, q1⟩ => ?_
    refine thn (ho pins s1 σ H1 v y u w _ I1 r r1 q1) fun z s2 ⟨zv, H2, I2, r2, q2⟩ => ?_
    exact store_ok I2 hN hi hx r2 (fun s3 I3 => ⟨_, H2, I3, q2⟩) hf
  rcases l with ⟨hk, hm⟩ | ⟨hk, c, hc, hcell⟩
  · exact wpAny_loadName_local I.ok.kind hk hn hm go
  · rcases hk with hk | hk
    · exact wpAny_loadName_cell I.ok.kind hk hc hcell go
    · rcases hx with k | k
      · have : X.env.scope.names.lookup x = some .free := hk
        rw [k] at this; cases this
      · have : X.env.scope.names.lookup x = some .free := hk
        rw [k] at this; cases this
end

/-! ### while -/
section
variable {X : Cx} {pos : Pos}
/-- the invariant W with its measure -/
noncomputable def tWhile (c : TT) (tb : TS) : TS := fun D σ H => ∃ W : Nat → St → Hp → Prop, (∃ m, W m σ H) ∧ ∀ m σ H, W m σ H →
  c σ H fun b H1 => if b = true then ∃ N : St → Hp → Prop, (∀ σ' H', N σ' H' → ∃ m', m' < m ∧ W m' σ' H') ∧ tb { D with nx := N, ct := N, bk := D.nx } σ H1 else D.nx σ H1
theorem ps_while {c : Expr} {body : List Stmt} {tc : TT} {tb : TS} (hp : PassesOwn (model X.prog X.w) X.A X.env X.xe) (hc : PT X c tc) (hb : PSs X body tb) : PS X (.While c body [] pos) (tWhile tc tb) := by
  intro pins s σ H D I h
  obtain ⟨W, ⟨m0, w0⟩, turn⟩ := h
  refine wpAny_While (codeAny_whileLoop (fun n s' => ∃ σ' H', Inv X pins σ' H' s' ∧ W n σ' H') ?_ m0 ⟨σ, H, I, w0⟩)
  rintro n s1 ⟨σ1, H1, I1, w1⟩
  refine wpAny_passesOwn hp (thn (hc pins s1 σ1 H1 _ I1 (turn n σ1 H1 w1)) fun b s2 ⟨H2, I2, q2⟩ => ?_)
  cases b with
  | true =>
    obtain ⟨N, hN, q2⟩ := q2
    rw [if_pos rfl]
    refine wpAny_passesOwn hp (thn (hb pins s2 σ1 H2 _ I2 q2) fun f s3 q3 => ?_)
    cases f with
    | next =>
      obtain ⟨σ3, H3, I3, n3⟩ := q3
      obtain ⟨m', hm, w3⟩ := hN σ3 H3 n3
      exact ⟨m', hm, σ3, H3, I3, w3⟩
    | cont =>
      obtain ⟨σ3, H3, I3, n3⟩ := q3
      obtain ⟨m', hm, w3⟩ := hN σ3 H3 n3
      exact ⟨m', hm, σ3, H3, I3, w3⟩
    | brk => exact q3
    | ret v => exact q3
  | false =>
    rw [if_neg Bool.false_ne_true]
    exact wpAny_execs_nil ⟨σ1, H2, I2, q2⟩
end

/-! ### what a loop or a comprehension walks -/
/-- at turn i: it yields x (the heap may grow), or it stops -/
structure It where
  go : Nat → Hp → Prop
  yld : Nat → Hp → V → Hp → Prop
  stop : Nat → Hp → Prop
/-- the iterator's own objects may turn: they are not the frame's, not pinned, younger than the entry (or a comprehension's own) -/
noncomputable def FpOk (X : Cx) (pins : List (Addr × Obj)) (H : Hp) (b : Addr) : Prop :=
  H b = none ∧ b ≠ X.env.locals ∧ b ∉ X.fs ∧ (b ∈ X.ex ∨ X.s₀.heap.objs.size ≤ b) ∧ (∀ x c, X.env.cells.lookup x = some c → c ≠ b) ∧ ∀ p ∈ X.pn ++ pins, p.1 ≠ b
theorem Inv.fpOk {X : Cx} {pins : List (Addr × Obj)} {σ : St} {H H' : Hp} {s : Shared} {b : Addr} (I : Inv X pins σ H s) (hb : s.heap.objs.size ≤ b) (hn : H' b = none) : FpOk X pins H' b := by
  refine ⟨hn, Nat.ne_of_gt (Nat.lt_of_lt_of_le I.lt hb), I.nofs hb, .inr (Nat.le_trans I.sz hb), fun x c e z => ?_, fun p hp z => ?_⟩
  · obtain ⟨v, q⟩ := I.cell x c e
    exact absurd (Nat.lt_of_lt_of_le q.lt (by rw [z]; exact hb)) (Nat.lt_irrefl _)
  · exact absurd (Nat.lt_of_lt_of_le (Heap.lt_size (I.pin p hp).1) (by rw [z]; exact hb)) (Nat.lt_irrefl _)
structure Turn (P : Program) (w : World) (K : PySem.W.Frag) (tg : Expr) (J : It) (fp : List Addr) (it : Addr) (tn : Nat → Heap → Prop) : Prop where
  mem : it ∈ fp
  obj : ∀ i h, tn i h → ∀ b ∈ fp, ∃ o, h.get? b = some o ∧ ∀ v, o.data ≠ .cell v
  keep : ∀ i h h', tn i h → (∀ b ∈ fp, ∀ o, h.get? b = some o → h'.get? b = some o) → tn i h'
  item : ∀ (X : Cx), X.prog = P → X.w = w → X.K = K → X.calm = true → ∀ (i : Nat) (pins : List (Addr × Obj)) (s : Shared) (σ : St) (H : Hp) (E : Value → Shared → Prop), Inv X pins σ H s → (∀ b ∈ fp, FpOk X pins H b) → tn i s.heap → J.go i H →
    wpAny (model P w) X.A (pyNext (.ref it)) (fun r s1 => ∃ u, r = some u ∧
      wpAny (model P w) X.A (letOwnedTupleGo tg (.ref it) u) (fun _ s2 => ∃ x H', Inv X pins σ H' s2 ∧ RelV x u ∧ J.yld i H x H' ∧ tn (i + 1) s2.heap ∧ ∀ b ∈ fp, H' b = none) E s1) E s
  done : ∀ (X : Cx), X.prog = P → X.w = w → X.K = K → X.calm = true → ∀ (i : Nat) (pins : List (Addr × Obj)) (s : Shared) (σ : St) (H : Hp) (E : Value → Shared → Prop), Inv X pins σ H s → (∀ b ∈ fp, FpOk X pins H b) → tn i s.heap → J.stop i H →
    wpAny (model P w) X.A (pyNext (.ref it)) (fun r s1 => r = none ∧ Inv X pins σ H s1) E s
  self : ∀ (A : Around) (i : Nat) (s : Shared) (Q : Value → Shared → Prop) (E : Value → Shared → Prop), tn i s.heap → Q (.ref it) s → wpAny (model P w) A (pyIter (.ref it)) Q E s
noncomputable abbrev TI := St → Hp → (It → Hp → Prop) → Prop
/-- an iterator has come -/
noncomputable def PIE (X : Cx) (pins : List (Addr × Obj)) (σ : St) (tg : Expr) (R : It → Hp → Prop) (itv : Value) (s2 : Shared) : Prop :=
  ∃ (it : Addr) (fp : List Addr) (tn : Nat → Heap → Prop) (J : It) (H' : Hp), itv = .ref it ∧ Inv X pins σ H' s2 ∧ Turn X.prog X.w X.K tg J fp it tn ∧ tn 0 s2.heap ∧ (∀ b ∈ fp, FpOk X pins H' b) ∧ R J H'
noncomputable def PI (X : Cx) (tg iter : Expr) (wi : TI) : Prop :=
  ∀ (pins : List (Addr × Obj)) (s : Shared) (σ : St) (H : Hp) (R : It → Hp → Prop), Inv X pins σ H s → wi σ H R →
    wpAny (model X.prog X.w) X.A (eval iter X.env) (fun v s1 => wpAny (model X.prog X.w) X.A (pyIter v) (PIE X pins σ tg R) X.xe s1) X.xe s

/-- the step ahead of the store is nothing for an iterator that keeps no tuple -/
theorem go_of {M : Model} {A : Around} {E : Value → Shared → Prop} {s : Shared} {tg : Expr} {it : Addr} {u : Value} {o : Obj} {n : String} {vs : Array Value} {Q : Unit → Shared → Prop} (ho : s.heap.get? it = some o) (hc : o.cls = .type n) (hd : o.data = .fields vs)
    (hn : ["enumerate", "zip", "dict_itemiterator", "dict_reverseitemiterator", "odict_iterator", "itertools.zip_longest", "itertools.pairwise"].contains n = false) (hQ : Q () s) : wpAny M A (letOwnedTupleGo tg (.ref it) u) Q E s := by
  unfold letOwnedTupleGo
  cases tg <;> first
    | exact wpAny_pure hQ
    | (cases u <;> first
        | exact wpAny_pure hQ
        | (refine wpAny_bind (wpAny_load ho ?_)
           rw [hc, hd]
           show wpAny M A (if (["enumerate", "zip", "dict_itemiterator", "dict_reverseitemiterator", "odict_iterator", "itertools.zip_longest", "itertools.pairwise"].contains n && vs[0]? == some (rawInt _)) = true then _ else _) Q E s
           rw [if_neg (by intro h; rw [hn, Bool.false_and] at h; cases h)]
           exact wpAny_pure hQ))

/-- the list at a, as it stands at each turn (a loop may append to it) -/
noncomputable def Itl (K : PySem.W.Frag) (a : Addr) : It :=
  ⟨fun i H => ∃ xs x, SqL K H a xs ∧ xs[i]? = some x, fun i H x H' => H' = H ∧ ∀ xs, SqL K H a xs → xs[i]? = some x, fun i H => ∃ xs, SqL K H a xs ∧ xs.length ≤ i⟩
theorem turn_list {P : Program} {w : World} {K : PySem.W.Frag} {tg : Expr} (a it : Addr) : Turn P w K tg (Itl K a) [it] it (fun i h => h.IsListIter it a i) where
  mem := by simp
  obj := fun i h st b hb => by
    have e : b = it := by simpa using hb
    subst e
    obtain ⟨o, e, c, d⟩ := st
    exact ⟨o, e, fun v z => by rw [d] at z; cases z⟩
  keep := fun i h h' st k => st.at fun o e => k it (by simp) o e
  item := by
    intro X hP hw hK hc i pins s σ H E I hf st hg
    subst hP hw hK
    obtain ⟨xs, x, hq, hx⟩ := hg
    obtain ⟨its, rv, p, hz⟩ := I.list hq
    obtain ⟨u, hu, ru⟩ := rv.get hx
    obtain ⟨f0, f1, f2, f3, f4, f5⟩ := hf it (by simp)
    refine wpAny_pyNext_list_item st p.isList (x := u) (by simpa using hu) fun h' st' sb => ?_
    have I1 : Inv X pins σ H { s with heap := h' } := I.turned (t' := s.toks) (fun b o hb e => (sb.2 b hb).trans e) f0 f1 f3 f4 f5
    obtain ⟨o, e, c, d⟩ := id st'
    exact ⟨u, rfl, go_of (s := { s with heap := h' }) e c d (by decide) ⟨x, H, I1, ru, ⟨rfl, fun ys hy => by rw [I.list_inj hy hq]; exact hx⟩, st', fun b hb => (hf b hb).1⟩⟩
  done := by
    intro X hP hw hK hc i pins s σ H E I hf st hg
    subst hP hw hK
    obtain ⟨xs, hq, hx⟩ := hg
    obtain ⟨its, rv, p, hz⟩ := I.list hq
    obtain ⟨f0, f1, f2, f3, f4, f5⟩ := hf it (by simp)
    have hl := rv.length
    exact wpAny_pyNext_list_end (I.ok.hd hc) st p.isList (by simp; omega) fun h' eb => ⟨rfl, I.turned (t' := s.toks) (fun b o hb e => eb b o hb e) f0 f1 f3 f4 f5⟩
  self := fun _ _ _ _ _ st h => wpAny_pyIter_listiter st h
end L2

namespace L2
open PySem PySem.Spec PyProof.Rows
section
variable {X : Cx} {tg : Expr}
noncomputable def iList (K : PySem.W.Frag) (tl : TE) : TI := fun σ H R => tl σ H fun x H1 => ∃ a, x = .ref a ∧ (∃ xs, SqL K H1 a xs) ∧ R (Itl K a) H1
theorem pi_list {l : Expr} {tl : TE} (hl : PE X l tl) : PI X tg l (iList X.K tl) := by
  intro pins s σ H R I h
  refine thn (hl pins s σ H _ I h) fun v s1 ⟨x, H1, I1, r1, q1⟩ => ?_
  obtain ⟨a, e, ⟨xs, hq⟩, q⟩ := q1
  subst e
  cases r1
  obtain ⟨its, rv, p, hz⟩ := I1.list hq
  refine wpAny_pyIter_list p.isList ?_
  refine ⟨s1.heap.objs.size, [s1.heap.objs.size], _, _, H1, rfl, I1.kept (t' := s1.toks) fun b o e => Heap.get?_push_of_some _ e, turn_list a _, ⟨_, Heap.get?_push_size _ rfl, rfl, rfl⟩, fun b hb => ?_, q⟩
  have e : b = s1.heap.objs.size := by simpa using hb
  subst e
  exact I1.fpOk (Nat.le_refl _) (I1.hok.fresh (Nat.le_refl _))

/-! ### for -/
/-- W: the invariant by the turn and a measure; N: what the body is to reach -/
noncomputable def tFor (wi : TI) (g : TG) (tb : TS) : TS := fun D σ H => wi σ H fun J H1 => ∃ W : Nat → Nat → St → Hp → Prop, (∃ m, W 0 m σ H1) ∧ ∀ i m σ H, W i m σ H →
  (J.stop i H ∧ D.nx σ H) ∨ (J.go i H ∧ ∃ N : St → Hp → Prop, (∀ σ' H', N σ' H' → ∃ m', m' < m ∧ W (i + 1) m' σ' H') ∧ ∀ x H', J.yld i H x H' → g x σ H' fun σ2 H2 => tb { D with nx := N, ct := N, bk := D.nx } σ2 H2)
/-- the records at fp as they stand -/
noncomputable def pinsAt (fp : List Addr) (h : Heap) : List (Addr × Obj) := fp.filterMap fun b => (h.get? b).map fun o => (b, o)
theorem mem_pinsAt {fp : List Addr} {h : Heap} {b : Addr} {o : Obj} (hb : b ∈ fp) (e : h.get? b = some o) : (b, o) ∈ pinsAt fp h := List.mem_filterMap.mpr ⟨b, hb, by rw [e]; rfl⟩
theorem of_pinsAt {fp : List Addr} {h : Heap} {p : Addr × Obj} (hp : p ∈ pinsAt fp h) : p.1 ∈ fp ∧ h.get? p.1 = some p.2 := by
  obtain ⟨b, hb, e⟩ := List.mem_filterMap.mp hp
  cases q : h.get? b with
  | none => rw [q] at e; cases e
  | some o =>
    rw [q] at e
    have e' : (b, o) = p := Option.some.inj e
    subst e'
    exact ⟨hb, q⟩
theorem Inv.pinned {pins : List (Addr × Obj)} {σ : St} {H : Hp} {s : Shared} {fp : List Addr} (I : Inv X pins σ H s) (hf : ∀ b ∈ fp, FpOk X pins H b) (ho : ∀ b ∈ fp, ∃ o, s.heap.get? b = some o ∧ ∀ v, o.data ≠ .cell v) : Inv X (pins ++ pinsAt fp s.heap) σ H s :=
  I.pins_of fun p hp => (List.mem_append.mp hp).elim (fun z => I.pin p (List.mem_append_right _ z)) fun z => by
    obtain ⟨hb, e⟩ := of_pinsAt z
    obtain ⟨f0, f1, f2, _⟩ := hf p.1 hb
    obtain ⟨o, e', d⟩ := ho p.1 hb
    rw [e] at e'; cases e'
    exact ⟨e, f0, f1, f2, d⟩
theorem Inv.unpinned {pins pl : List (Addr × Obj)} {σ : St} {H : Hp} {s : Shared} (I : Inv X (pins ++ pl) σ H s) : Inv X pins σ H s := I.pins_of fun p hp => I.pin p (List.mem_append_right _ (List.mem_append_left _ hp))
theorem ps_for {iter : Expr} {body : List Stmt} {wi : TI} {g : TG} {tb : TS} {pos : Pos} (hp : PassesOwn (model X.prog X.w) X.A X.env X.xe) (hc : X.calm = true) (hi : PI X tg iter wi) (hg : PG X tg g) (hb : PSs X body tb)
    (hs : ∀ x, foldedSetIterable iter X.env x = pure x := by intro _; rfl) : PS X (.For tg iter body [] pos) (tFor wi g tb) := by
  intro pins s σ H D I h
  refine wpAny_For (thn (hi pins s σ H _ I h) fun v s1 h1 => thn h1 fun itv s2 h2 => ?_) hs
  obtain ⟨it, fp, tn, J, H2, e, I2, T, st2, f2, W, ⟨m0, w0⟩, turn⟩ := h2
  subst e
  -- what stays true of the iterator's objects through the loop
  have stat : ∀ {H' : Hp}, (∀ b ∈ fp, H' b = none) → ∀ b ∈ fp, FpOk X pins H' b := fun hn b hb => ⟨hn b hb, (f2 b hb).2⟩
  refine codeAny_forLoop_any (fun n s' => ∃ i σ' H', Inv X pins σ' H' s' ∧ tn i s'.heap ∧ (∀ b ∈ fp, H' b = none) ∧ W i n σ' H') ?_ m0 ⟨0, σ, H2, I2, st2, fun b hb => (f2 b hb).1, w0⟩
  rintro n s3 ⟨i, σ3, H3, I3, st3, fr3, w3⟩
  rcases turn i n σ3 H3 w3 with ⟨stop, qn⟩ | ⟨go, N, hN, step⟩
  · refine wpAny_passesOwn hp (thn (T.done X rfl rfl rfl hc i pins s3 σ3 H3 X.xe I3 (stat fr3) st3 stop) fun r s4 ⟨hr, I4⟩ => ?_)
    subst hr
    exact wpAny_execs_nil ⟨σ3, H3, I4, qn⟩
  · refine wpAny_passesOwn hp (thn (T.item X rfl rfl rfl hc i pins s3 σ3 H3 X.xe I3 (stat fr3) st3 go) fun r s4 ⟨u, hr, h4⟩ => ?_)
    subst hr
    refine wpAny_passesOwn hp (thn h4 fun _ s5 ⟨x, H5, I5, r5, y5, st5, fr5⟩ => ?_)
    have I5' := I5.pinned (stat fr5) (T.obj _ _ st5)
    refine wpAny_passesOwn hp (thn (hg _ s5 σ3 H5 x u _ I5' r5 (step x H5 y5)) fun _ s6 ⟨σ6, H6, I6, q6⟩ => ?_)
    refine wpAny_passesOwn hp (thn (hb _ s6 σ6 H6 _ I6 q6) fun f s7 q7 => ?_)
    have again : ∀ {σ7 : St} {H7 : Hp}, Inv X (pins ++ pinsAt fp s5.heap) σ7 H7 s7 → N σ7 H7 → ∃ m, m < n ∧ ∃ i σ' H', Inv X pins σ' H' s7 ∧ tn i s7.heap ∧ (∀ b ∈ fp, H' b = none) ∧ W i m σ' H' := fun {σ7 H7} I7 n7 => by
      obtain ⟨m', hm, w7⟩ := hN σ7 H7 n7
      refine ⟨m', hm, i + 1, σ7, H7, I7.unpinned, T.keep _ _ _ st5 fun b hb o e => (I7.pin (b, o) (List.mem_append_right _ (List.mem_append_right _ (mem_pinsAt hb e)))).1, fun b hb => ?_, w7⟩
      obtain ⟨o, e, d⟩ := T.obj _ _ st5 b hb
      exact (I7.pin (b, o) (List.mem_append_right _ (List.mem_append_right _ (mem_pinsAt hb e)))).2.1
    cases f with
    | next => obtain ⟨σ7, H7, I7, n7⟩ := q7; exact again I7 n7
    | cont => obtain ⟨σ7, H7, I7, n7⟩ := q7; exact again I7 n7
    | brk => obtain ⟨σ7, H7, I7, q7⟩ := q7; exact ⟨σ7, H7, I7.unpinned, q7⟩
    | ret v => obtain ⟨x7, σ7, H7, I7, r7, q7⟩ := q7; exact ⟨x7, σ7, H7, I7.unpinned, r7, q7⟩
end

/-! ### the forms one uses -/
/-- over a list that the body leaves as it is -/
theorem for_list {K : PySem.W.Frag} {a : Addr} {xs : List V} {g : TG} {tb : TS} {D : Ends} {σ : St} {H : Hp} (Pv : Nat → St → Hp → Prop) (h0 : Pv 0 σ H) (hl : ∀ i σ H, i ≤ xs.length → Pv i σ H → SqL K H a xs)
    (hs : ∀ i x σ H, xs[i]? = some x → Pv i σ H → g x σ H fun σ2 H2 => tb { D with nx := Pv (i + 1), ct := Pv (i + 1), bk := D.nx } σ2 H2) (hd : ∀ σ H, Pv xs.length σ H → D.nx σ H) :
    ∃ W : Nat → Nat → St → Hp → Prop, (∃ m, W 0 m σ H) ∧ ∀ i m σ H, W i m σ H →
      ((Itl K a).stop i H ∧ D.nx σ H) ∨ ((Itl K a).go i H ∧ ∃ N : St → Hp → Prop, (∀ σ' H', N σ' H' → ∃ m', m' < m ∧ W (i + 1) m' σ' H') ∧ ∀ x H', (Itl K a).yld i H x H' → g x σ H' fun σ2 H2 => tb { D with nx := N, ct := N, bk := D.nx } σ2 H2) := by
  refine ⟨fun i m σ H => m = xs.length - i ∧ i ≤ xs.length ∧ Pv i σ H, ⟨xs.length, by simp, Nat.zero_le _, h0⟩, ?_⟩
  rintro i m σ H ⟨rfl, hi, p⟩
  have q := hl i σ H hi p
  by_cases hlt : i < xs.length
  · refine .inr ⟨⟨xs, xs[i], q, by simp [hlt]⟩, Pv (i + 1), fun σ' H' p' => ⟨xs.length - (i + 1), by omega, rfl, hlt, p'⟩, fun x H' y => ?_⟩
    obtain ⟨e, y⟩ := y
    subst e
    exact hs i x σ _ (y xs q) p
  · have e : i = xs.length := by omega
    subst e
    exact .inl ⟨⟨xs, q, Nat.le_refl _⟩, hd σ H p⟩
/-- while, by a word and a measure of the state -/
theorem while_by {c : TT} {tb : TS} {D : Ends} {σ : St} {H : Hp} (Pv : St → Hp → Prop) (μ : St → Hp → Nat) (h0 : Pv σ H)
    (hs : ∀ σ H, Pv σ H → c σ H fun b H1 => if b = true then tb { D with nx := fun σ' H' => Pv σ' H' ∧ μ σ' H' < μ σ H, ct := fun σ' H' => Pv σ' H' ∧ μ σ' H' < μ σ H, bk := D.nx } σ H1 else D.nx σ H1)
    (mono : ∀ σ H Q Q', (∀ b H1, Q b H1 → Q' b H1) → c σ H Q → c σ H Q') : tWhile c tb D σ H := by
  refine ⟨fun m σ H => m = μ σ H ∧ Pv σ H, ⟨_, rfl, h0⟩, ?_⟩
  rintro m σ H ⟨rfl, p⟩
  refine mono σ H _ _ (fun b H1 q => ?_) (hs σ H p)
  cases b with
  | true => exact ⟨_, fun σ' H' ⟨p', l⟩ => ⟨_, l, rfl, p'⟩, q⟩
  | false => exact q
end L2

namespace L2
open PySem PySem.Spec PyProof.Rows

noncomputable abbrev R2 := V → V → Hp → VK → Prop
/-- a two-place operation on values: f is binaryOp op, inplaceOp op or compareOp op -/
noncomputable def OpR (X : Cx) (f : Value → Value → Sem Value) (r : R2) : Prop :=
  ∀ (pins : List (Addr × Obj)) (s : Shared) (σ : St) (H : Hp) (x y : V) (v u : Value) (Q : VK), Inv X pins σ H s → RelV x v → RelV y u → r x y H Q →
    wpAny (model X.prog X.w) X.A (f v u) (EP X pins σ Q) X.xe s
/-- a one-place operation -/
noncomputable def UnR (X : Cx) (f : Value → Sem Value) (r : V → Hp → VK → Prop) : Prop :=
  ∀ (pins : List (Addr × Obj)) (s : Shared) (σ : St) (H : Hp) (x : V) (v : Value) (Q : VK), Inv X pins σ H s → RelV x v → r x H Q →
    wpAny (model X.prog X.w) X.A (f v) (EP X pins σ Q) X.xe s
/-- a call of a value that is known (a builtin, a type) with values -/
noncomputable def CallR (X : Cx) (f : Value) (r : List V → Hp → VK → Prop) : Prop :=
  ∀ (pins : List (Addr × Obj)) (s : Shared) (σ : St) (H : Hp) (xs : List V) (us : List Value) (Q : VK), Inv X pins σ H s → Vals xs us → r xs H Q →
    wpAny (model X.prog X.w) X.A (call f us) (EP X pins σ Q) X.xe s

noncomputable def tOp (r : R2) (ta tb : TE) : TE := fun σ H Q => ta σ H fun x H1 => tb σ H1 fun y H2 => r x y H2 Q
noncomputable def tUn (r : V → Hp → VK → Prop) (ta : TE) : TE := fun σ H Q => ta σ H fun x H1 => r x H1 Q
/-- ints in, under C, and a value out -/
noncomputable def rI (C : Int → Int → Prop) (g : Int → Int → V) : R2 := fun x y H Q => ∃ i j, x = .int i ∧ y = .int j ∧ C i j ∧ Q (g i j) H
noncomputable def rI0 (g : Int → Int → V) : R2 := fun x y H Q => ∃ i j, x = .int i ∧ y = .int j ∧ Q (g i j) H
noncomputable def rU (g : Int → V) : V → Hp → VK → Prop := fun x H Q => ∃ i, x = .int i ∧ Q (g i) H

section
variable {X : Cx} {a b c : Expr} {ta tb tc : TE} {pos : Pos}

theorem binT (ha : PE X a ta) (hb : PE X b tb) {pins : List (Addr × Obj)} {s : Shared} {σ : St} {H : Hp} {R : V → V → Hp → Prop} (I : Inv X pins σ H s)
    (h : ta σ H fun x H1 => tb σ H1 fun y H2 => R x y H2) {Q : Value → Shared → Prop} {f : Value → Value → Sem Value}
    (hf : ∀ v u s2 x y H2, Inv X pins σ H2 s2 → RelV x v → RelV y u → R x y H2 → wpAny (model X.prog X.w) X.A (f v u) Q X.xe s2) :
    wpAny (model X.prog X.w) X.A (eval a X.env) (fun v s₁ => wpAny (model X.prog X.w) X.A (eval b X.env) (fun u s₂ => wpAny (model X.prog X.w) X.A (f v u) Q X.xe s₂) X.xe s₁) X.xe s := by
  refine thn (ha pins s σ H _ I h) fun v s1 ⟨x, H1, I1, r1, q1⟩ => ?_
  refine thn (hb pins s1 σ H1 _ I1 q1) fun u s2 ⟨y, H2, I2, r2, q2⟩ => ?_
  exact hf v u s2 x y H2 I2 r1 r2 q2

theorem pe_op {op : Operator} {r : R2} (ho : OpR X (binaryOp op) r) (ha : PE X a ta) (hb : PE X b tb) : PE X (.BinOp a op b pos) (tOp r ta tb) := by
  intro pins s σ H Q I h
  exact wpAny_BinOp (binT ha hb I h fun v u s2 x y H2 I2 rx ry q => ho pins s2 σ H2 x y v u Q I2 rx ry q)
theorem pe_un {op : UnaryOp} {r : V → Hp → VK → Prop} (ho : UnR X (unaryOp op) r) (ha : PE X a ta) : PE X (.UnaryOp op a pos) (tUn r ta) := by
  intro pins s σ H Q I h
  exact UnaryOp_ (thn (ha pins s σ H _ I h) fun v s1 ⟨x, H1, I1, r1, q1⟩ => ho pins s1 σ H1 x v Q I1 r1 q1)

/-! ### ints -/
theorem opI {f : Value → Value → Sem Value} {C : Int → Int → Prop} {g : Int → Int → Int}
    (rule : ∀ (i j : Int) (t u : Tok) (s : Shared) (Q : Value → Shared → Prop) (E : Value → Shared → Prop), C i j → Q (.int (g i j) s.toks) { s with toks := s.toks + 1 } → wpAny (model X.prog X.w) X.A (f (.int i t) (.int j u)) Q E s) :
    OpR X f (rI C fun i j => .int (g i j)) := by
  intro pins s σ H x y v u Q I rx ry h
  obtain ⟨i, j, rfl, rfl, hc, q⟩ := h
  obtain ⟨t, rfl⟩ := rx
  obtain ⟨t', rfl⟩ := ry
  exact rule i j t t' s _ _ hc ⟨.int (g i j), H, I.tok _, ⟨_, rfl⟩, q⟩
theorem opI0 {f : Value → Value → Sem Value} {g : Int → Int → Int}
    (rule : ∀ (i j : Int) (t u : Tok) (s : Shared) (Q : Value → Shared → Prop) (E : Value → Shared → Prop), Q (.int (g i j) s.toks) { s with toks := s.toks + 1 } → wpAny (model X.prog X.w) X.A (f (.int i t) (.int j u)) Q E s) :
    OpR X f (rI0 fun i j => .int (g i j)) := by
  intro pins s σ H x y v u Q I rx ry h
  obtain ⟨i, j, rfl, rfl, q⟩ := h
  obtain ⟨t, rfl⟩ := rx
  obtain ⟨t', rfl⟩ := ry
  exact rule i j t t' s _ _ ⟨.int (g i j), H, I.tok _, ⟨_, rfl⟩, q⟩
theorem opB0 {f : Value → Value → Sem Value} {g : Int → Int → Bool}
    (rule : ∀ (i j : Int) (t u : Tok) (s : Shared) (Q : Value → Shared → Prop) (E : Value → Shared → Prop), Q (.bool (g i j)) s → wpAny (model X.prog X.w) X.A (f (.int i t) (.int j u)) Q E s) :
    OpR X f (rI0 fun i j => .bl (g i j)) := by
  intro pins s σ H x y v u Q I rx ry h
  obtain ⟨i, j, rfl, rfl, q⟩ := h
  obtain ⟨t, rfl⟩ := rx
  obtain ⟨t', rfl⟩ := ry
  exact rule i j t t' s _ _ ⟨.bl (g i j), H, I, rfl, q⟩

noncomputable def CPow (i j : Int) : Prop := 0 ≤ j ∧ j ≤ 1000000 ∧ i.natAbs < 2 ^ 64
theorem two_pow_nn (k : Nat) : (0 : Int) ≤ 2 ^ k := by
  rw [two_pow_cast]
  exact Int.natCast_nonneg _

theorem op_add : OpR X (binaryOp .Add) (rI0 fun i j => .int (i + j)) := opI0 fun _ _ _ _ _ _ _ q => add_int q
theorem op_sub : OpR X (binaryOp .Sub) (rI0 fun i j => .int (i - j)) := opI0 fun _ _ _ _ _ _ _ q => sub_int q
theorem op_shl : OpR X (binaryOp .LShift) (rI CPow fun i j => .int (i * 2 ^ j.toNat)) := opI fun _ _ _ _ _ _ _ hc q => lshift_int_small hc.1 hc.2.1 hc.2.2 q
theorem op_shr : OpR X (binaryOp .RShift) (rI (fun _ j => 0 ≤ j) fun i j => .int (i / 2 ^ j.toNat)) := opI fun i j _ _ _ _ _ hc q =>
  rshift_int hc (by rw [Int.fdiv_eq_ediv_of_nonneg i (two_pow_nn _)]; exact q)
theorem op_and : OpR X (binaryOp .BitAnd) (rI0 fun i j => .int (Builtin.bitAnd i j)) := opI0 fun _ _ _ _ _ _ _ q => and_int q

theorem iop_add : OpR X (inplaceOp .Add) (rI0 fun i j => .int (i + j)) := opI0 fun _ _ _ _ _ _ _ q => iadd_int q
theorem iop_or : OpR X (inplaceOp .BitOr) (rI0 fun i j => .int (Builtin.bitOr i j)) := opI0 fun _ _ _ _ _ _ _ q => ior_int q

theorem unI {f : Value → Sem Value} {g : Int → Int}
    (rule : ∀ (i : Int) (t : Tok) (s : Shared) (Q : Value → Shared → Prop) (E : Value → Shared → Prop), Q (.int (g i) s.toks) { s with toks := s.toks + 1 } → wpAny (model X.prog X.w) X.A (f (.int i t)) Q E s) :
    UnR X f (rU fun i => .int (g i)) := by
  intro pins s σ H x v Q I rx h
  obtain ⟨i, rfl, q⟩ := h
  obtain ⟨t, rfl⟩ := rx
  exact rule i t s _ _ ⟨.int (g i), H, I.tok _, ⟨_, rfl⟩, q⟩
theorem un_neg : UnR X (unaryOp .USub) (rU fun i => .int (-i)) := unI fun _ _ _ _ _ q => neg_int q

/-! ### bools among ints: n += (a < b) -/
end

/-! ### comparisons -/
/-- the scalars that == tells apart as data does -/
noncomputable def scal : V → V → Bool
  | .non, .non => true | .non, .int _ => true | .int _, .non => true | .non, .bl _ => true | .bl _, .non => true | .non, .str _ => true | .str _, .non => true
  | .int _, .int _ => true | .bl _, .bl _ => true | .str _, .str _ => true | .byt _, .byt _ => true
  | .int _, .str _ => true | .str _, .int _ => true | .bl _, .str _ => true | .str _, .bl _ => true
  | _, _ => false
noncomputable def rEq : R2 := fun x y H Q => scal x y = true ∧ Q (.bl (decide (x = y))) H
noncomputable def rNe : R2 := fun x y H Q => scal x y = true ∧ Q (.bl (!decide (x = y))) H

theorem dec_int {i j : Int} : decide (V.int i = V.int j) = (i == j) := by
  rw [Bool.eq_iff_iff]
  simp
theorem dec_bl {i j : Bool} : decide (V.bl i = V.bl j) = (i == j) := by
  rw [Bool.eq_iff_iff]
  simp
theorem dec_str {i j : Str} : decide (V.str i = V.str j) = (i == j) := by
  rw [Bool.eq_iff_iff]
  simp
theorem dec_byt {i j : Array UInt8} : decide (V.byt i = V.byt j) = (i.toList == j.toList) := by
  rw [Bool.eq_iff_iff]
  cases i
  cases j
  simp

section
variable {X : Cx} {a b c : Expr} {ta tb tc : TE} {pos : Pos}
theorem fin_bl {pins : List (Addr × Obj)} {σ : St} {H : Hp} {s : Shared} {Q : VK} {k k' : Bool} (I : Inv X pins σ H s) (q : Q (.bl k) H) (e : k = k') : EP X pins σ Q (.bool k') s := by
  subst e
  exact ⟨.bl k, H, I, rfl, q⟩
theorem op_eq : OpR X (compareOp .Eq) rEq := by
  intro pins s σ H x y v u Q I rx ry h
  obtain ⟨hs, q⟩ := h
  cases x with
  | non =>
    cases rx
    cases y with
    | non => cases ry; exact PySem.EqNone.eq_none_none (fin_bl I q (by simp))
    | bl j => cases ry; exact PySem.EqNone.eq_none_bool (fin_bl I q (by simp))
    | int j => obtain ⟨t', rfl⟩ := ry; exact PySem.EqNone.eq_none_int (fin_bl I q (by simp))
    | str j => obtain ⟨t', rfl⟩ := ry; exact PySem.EqNone.eq_none_str (fin_bl I q (by simp))
    | _ => exact absurd (show false = true from hs) Bool.false_ne_true
  | bl i =>
    cases rx
    cases y with
    | non => cases ry; exact PySem.EqNone.eq_bool_none (fin_bl I q (by simp))
    | bl j => cases ry; exact eq_bool (fin_bl I q dec_bl)
    | str j => obtain ⟨t', rfl⟩ := ry; exact PySem.EqMixed.eq_bool_str (fin_bl I q (by simp))
    | _ => exact absurd (show false = true from hs) Bool.false_ne_true
  | int i =>
    obtain ⟨t, rfl⟩ := rx
    cases y with
    | non => cases ry; exact PySem.EqNone.eq_int_none (fin_bl I q (by simp))
    | int j => obtain ⟨t', rfl⟩ := ry; exact eq_int (fin_bl I q dec_int)
    | str j => obtain ⟨t', rfl⟩ := ry; exact PySem.EqMixed.eq_int_str (fin_bl I q (by simp))
    | _ => exact absurd (show false = true from hs) Bool.false_ne_true
  | str i =>
    obtain ⟨t, rfl⟩ := rx
    cases y with
    | non => cases ry; exact PySem.EqNone.eq_str_none (fin_bl I q (by simp))
    | bl j => cases ry; exact PySem.EqMixed.eq_str_bool (fin_bl I q (by simp))
    | int j => obtain ⟨t', rfl⟩ := ry; exact PySem.EqMixed.eq_str_int (fin_bl I q (by simp))
    | str j => obtain ⟨t', rfl⟩ := ry; exact eq_str (fin_bl I q dec_str)
    | _ => exact absurd (show false = true from hs) Bool.false_ne_true
  | byt i =>
    obtain ⟨t, rfl⟩ := rx
    cases y with
    | byt j => obtain ⟨t', rfl⟩ := ry; exact PySem.W.eq_bytes (fin_bl I q dec_byt)
    | _ => exact absurd (show false = true from hs) Bool.false_ne_true
  | _ => cases y <;> exact absurd (show false = true from hs) Bool.false_ne_true
theorem op_ne : OpR X (compareOp .NotEq) rNe := by
  intro pins s σ H x y v u Q I rx ry h
  obtain ⟨hs, q⟩ := h
  cases x with
  | non =>
    cases rx
    cases y with
    | non => cases ry; exact PySem.EqNone.ne_none_none (fin_bl I q (by simp))
    | bl j => cases ry; exact PySem.EqNone.ne_none_bool (fin_bl I q (by simp))
    | int j => obtain ⟨t', rfl⟩ := ry; exact PySem.EqNone.ne_none_int (fin_bl I q (by simp))
    | str j => obtain ⟨t', rfl⟩ := ry; exact PySem.EqNone.ne_none_str (fin_bl I q (by simp))
    | _ => exact absurd (show false = true from hs) Bool.false_ne_true
  | bl i =>
    cases rx
    cases y with
    | non => cases ry; exact PySem.EqNone.ne_bool_none (fin_bl I q (by simp))
    | bl j => cases ry; exact ne_bool (fin_bl I q (congrArg not dec_bl))
    | str j => obtain ⟨t', rfl⟩ := ry; exact PySem.EqMixed.ne_bool_str (fin_bl I q (by simp))
    | _ => exact absurd (show false = true from hs) Bool.false_ne_true
  | int i =>
    obtain ⟨t, rfl⟩ := rx
    cases y with
    | non => cases ry; exact PySem.EqNone.ne_int_none (fin_bl I q (by simp))
    | int j => obtain ⟨t', rfl⟩ := ry; exact ne_int (fin_bl I q (congrArg not dec_int))
    | str j => obtain ⟨t', rfl⟩ := ry; exact PySem.EqMixed.ne_int_str (fin_bl I q (by simp))
    | _ => exact absurd (show false = true from hs) Bool.false_ne_true
  | str i =>
    obtain ⟨t, rfl⟩ := rx
    cases y with
    | non => cases ry; exact PySem.EqNone.ne_str_none (fin_bl I q (by simp))
    | bl j => cases ry; exact PySem.EqMixed.ne_str_bool (fin_bl I q (by simp))
    | int j => obtain ⟨t', rfl⟩ := ry; exact PySem.EqMixed.ne_str_int (fin_bl I q (by simp))
    | str j => obtain ⟨t', rfl⟩ := ry; exact ne_str (fin_bl I q (congrArg not dec_str))
    | _ => exact absurd (show false = true from hs) Bool.false_ne_true
  | byt i =>
    obtain ⟨t, rfl⟩ := rx
    cases y with
    | byt j => obtain ⟨t', rfl⟩ := ry; exact PySem.W.ne_bytes (fin_bl I q (congrArg not dec_byt))
    | _ => exact absurd (show false = true from hs) Bool.false_ne_true
  | _ => cases y <;> exact absurd (show false = true from hs) Bool.false_ne_true

theorem op_lt : OpR X (compareOp .Lt) (rI0 fun i j => .bl (decide (i < j))) := opB0 fun _ _ _ _ _ _ _ q => lt_int q
theorem op_le : OpR X (compareOp .LtE) (rI0 fun i j => .bl (decide (i ≤ j))) := opB0 fun _ _ _ _ _ _ _ q => le_int q
theorem op_gt : OpR X (compareOp .Gt) (rI0 fun i j => .bl (decide (j < i))) := opB0 fun _ _ _ _ _ _ _ q => gt_int q
theorem op_ge : OpR X (compareOp .GtE) (rI0 fun i j => .bl (decide (j ≤ i))) := opB0 fun _ _ _ _ _ _ _ q => ge_int q

/-- is None, is not None: the right side a value none -/
theorem op_isN : OpR X (compareOp .Is) (fun x y H Q => y = .non ∧ Q (.bl (decide (x = .non))) H) := by
  intro pins s σ H x y v u Q I rx ry h
  obtain ⟨rfl, q⟩ := h
  cases ry
  refine is_none_gen (fin_bl I q ?_)
  cases x <;> first
    | (cases rx; rfl)
    | (obtain ⟨t, rfl⟩ := rx; rfl)



theorem nomark (b : Expr) {op : CmpOp} (h : op ≠ .In := by decide) (h2 : op ≠ .NotIn := by decide) : behindInMarks op b = false := by
  have e1 : (op == CmpOp.In) = false := by cases op <;> first | rfl | exact absurd rfl h
  have e2 : (op == CmpOp.NotIn) = false := by cases op <;> first | rfl | exact absurd rfl h2
  cases b <;> simp [behindInMarks, e1, e2]
/-- a comparison as a value; hm: nomark b, or (for in, not in) by with_unfolding_all rfl -/
theorem pe_cmpR {op : CmpOp} {r : R2} (ho : OpR X (compareOp op) r) (ha : PE X a ta) (hb : PE X b tb) (hm : behindInMarks op b = false) : PE X (.Compare a [op] [b] pos) (tOp r ta tb) := by
  intro pins s σ H Q I h
  exact wpAny_Compare1 (binT ha hb I h fun v u s2 x y H2 I2 rx ry q => ho pins s2 σ H2 x y v u Q I2 rx ry q) hm
/-- a reading of a value as a test -/
noncomputable def tTest (t : TE) : TT := fun σ H Q => t σ H fun x H' => ∃ k, x = .bl k ∧ Q k H'
theorem pt_cmpR {op : CmpOp} {r : R2} (ho : OpR X (compareOp op) r) (ha : PE X a ta) (hb : PE X b tb) (hm : behindInMarks op b = false) : PT X (.Compare a [op] [b] pos) (tTest (tOp r ta tb)) := by
  intro pins s σ H Q I h
  refine wpAny_isTrue_Compare1 (thn (ha pins s σ H _ I h) fun v s1 ⟨x, H1, I1, r1, q1⟩ => thn (hb pins s1 σ H1 _ I1 q1) fun u s2 ⟨y, H2, I2, r2, q2⟩ =>
    thn (ho pins s2 σ H2 x y v u _ I2 r1 r2 q2) fun c s3 ⟨z, H3, I3, r3, k, e, q3⟩ => ?_) hm
  subst e
  cases r3
  exact wpAny_truthy_bool ⟨H3, I3, q3⟩
/-- a op1 b op2 c -/
noncomputable def tChain (r r' : R2) (ta tb tc : TE) : TE := fun σ H Q => ta σ H fun x H1 => tb σ H1 fun y H2 => r x y H2 fun z H3 => ∃ k, z = .bl k ∧
  (if k = true then tc σ H3 fun w' H4 => r' y w' H4 Q else Q (.bl false) H3)
theorem pe_chain {op op' : CmpOp} {r r' : R2} (ho : OpR X (compareOp op) r) (ho' : OpR X (compareOp op') r') (ha : PE X a ta) (hb : PE X b tb) (hc : PE X c tc)
    (hm : lastMarks [op, op'] [b, c] = false := by with_unfolding_all rfl) : PE X (.Compare a [op, op'] [b, c] pos) (tChain r r' ta tb tc) := by
  intro pins s σ H Q I h
  refine Compare_chain (thn (ha pins s σ H _ I h) fun v s1 ⟨x, H1, I1, r1, q1⟩ => chain_link (thn (hb pins s1 σ H1 _ I1 q1) fun u s2 ⟨y, H2, I2, r2, q2⟩ =>
    thn (ho pins s2 σ H2 x y v u _ I2 r1 r2 q2) fun d s3 ⟨z, H3, I3, r3, k, e, q3⟩ => ?_)) hm
  subst e
  cases r3
  refine wpAny_truthy_bool ?_
  cases k with
  | false => exact ite_ff ⟨.bl false, H3, I3, rfl, q3⟩
  | true => exact ite_tt (chain_last (thn (hc pins s3 σ H3 _ I3 q3) fun w' s4 ⟨z', H4, I4, r4, q4⟩ => ho' pins s4 σ H4 y z' u w' Q I4 r2 r4 q4))
theorem pt_chain {op op' : CmpOp} {r r' : R2} (ho : OpR X (compareOp op) r) (ho' : OpR X (compareOp op') r') (ha : PE X a ta) (hb : PE X b tb) (hc : PE X c tc)
    (hm : lastMarks [op, op'] [b, c] = false := by with_unfolding_all rfl) : PT X (.Compare a [op, op'] [b, c] pos) (tTest (tChain r r' ta tb tc)) := by
  intro pins s σ H Q I h
  refine isTrue_chain (thn (ha pins s σ H _ I h) fun v s1 ⟨x, H1, I1, r1, q1⟩ => test_link (thn (hb pins s1 σ H1 _ I1 q1) fun u s2 ⟨y, H2, I2, r2, q2⟩ =>
    thn (ho pins s2 σ H2 x y v u _ I2 r1 r2 q2) fun d s3 ⟨z, H3, I3, r3, k, e, q3⟩ => ?_)) hm
  subst e
  cases r3
  refine wpAny_truthy_bool ?_
  cases k with
  | false =>
    obtain ⟨k', e', q'⟩ := q3
    cases e'
    exact ite_ff ⟨H3, I3, q'⟩
  | true =>
    refine ite_tt (test_last (thn (hc pins s3 σ H3 _ I3 q3) fun w' s4 ⟨z', H4, I4, r4, q4⟩ => thn (ho' pins s4 σ H4 y z' u w' _ I4 r2 r4 q4) fun d' s5 ⟨z2, H5, I5, r5, k2, e2, q5⟩ => ?_))
    subst e2
    cases r5
    exact wpAny_truthy_bool ⟨H5, I5, q5⟩

/-! ### truth -/
theorem line63 : (sizeLine : Nat) < 2 ^ 63 := by rw [sizeLine_eq]; decide

/-! ### strs and bytes -/


/-! ### scalar builtins, by CallR -/
theorem vals1 {x : V} {us : List Value} (r : Vals [x] us) : ∃ u, us = [u] ∧ RelV x u := by
  cases r with
  | cons r1 r2 => cases r2; exact ⟨_, rfl, r1⟩
end
end L2

namespace L2
open PySem PySem.Spec PyProof.Rows

/-! ### an instance, its attributes a map -/
structure ObjM (h : Heap) (x dx C : Addr) (mA : Str → Option Value) : Prop where
  obj : h.get? x = some (PySem.W.instObj C dx)
  ns : h.Ns1 dx mA
  ne : dx ≠ x

theorem lookIn_ns {h : Heap} {dx : Addr} {mA : Str → Option Value} (n : h.Ns1 dx mA) : ∃ od, h.get? dx = some od ∧ ∀ name, PySem.W.lookIn name od = some (mA name) := by
  obtain ⟨o, es, ep, ho, hd, hk, _, hm⟩ := n
  refine ⟨o, ho, fun name => ?_⟩
  have e := hm name
  unfold nsFind findBy at e
  rw [← Array.find?_toList] at e
  unfold PySem.W.lookIn
  rw [hd]
  dsimp only
  split
  · rename_i y q
    rw [q] at e
    exact congrArg some e
  · rename_i q
    rw [q] at e
    have a : es.toList.any (·.refKey) = false := by
      rw [List.any_eq_false]
      intro y hy
      obtain ⟨z, t, hkey⟩ := hk y (Array.mem_toList_iff.mp hy)
      simp [DictEntry.refKey, hkey]
    have a' : ¬ es.toList.any (·.refKey) = true := by rw [a]; exact Bool.false_ne_true
    rw [if_neg a']
    exact congrArg some e

theorem ObjM.look {h : Heap} {x dx C : Addr} {mA : Str → Option Value} (I : ObjM h x dx C mA) : ∃ od, PySem.W.InstAt h x (PySem.W.instObj C dx) C (some od) ∧ ∀ name, PySem.W.lookIn name od = some (mA name) :=
  let ⟨od, ho, hl⟩ := lookIn_ns I.ns
  ⟨od, ⟨I.obj, rfl, rfl, ho⟩, hl⟩

section
variable {prog : Program} {w : World} {A : Around} {E : Value → Shared → Prop} {s : Shared} {K : PySem.W.Frag} {x dx C f : Addr} {mA : Str → Option Value} {name : Str} {v : Value}

theorem get_map {expr : Bool} {Q : Value → Shared → Prop} (X : K.In s.heap) (I : ObjM s.heap x dx C mA) (hg : PySem.W.plainGet K C name = true) (hh : PySem.W.hasDictIn K C = true)
    (ha : PySem.W.findIn K (.ref C) name = some none) (hv : mA name = some v) (hv' : PySem.W.handedIn v = true) (h : Q v { s with toks := s.toks + 1 }) :
    wpAny (model prog w) A (getAttr (.ref x) name expr) Q E s := by
  obtain ⟨od, J, hl⟩ := I.look
  exact PySem.W.get_value X J (PySem.W.plainGet_of hg).1 (PySem.W.findObj_own hh ha rfl (by rw [hl, hv])) hv' h


theorem get_meth {pl : Sem Bool} {Q : Value × List Value → Shared → Prop} (X : K.In s.heap) (I : ObjM s.heap x dx C mA) (hg : PySem.W.plainGet K C name = true)
    (hf : PySem.W.findIn K (.ref C) name = some (some (.ref f))) (ht : PySem.W.isFn K (.ref f) = true) (hv : mA name = none) (h : Q (.ref f, [.ref x]) s) :
    wpAny (model prog w) A (getMethod (.ref x) name pl) Q E s := by
  obtain ⟨od, J, hl⟩ := I.look
  exact PySem.W.method_fn X J (PySem.W.plainGet_of hg).1 (PySem.W.plainGet_of hg).2 hf (beq_iff_eq.mp ht) (by show (PySem.W.lookIn name od).map (·.isSome) = some false; rw [hl, hv]; rfl) h

theorem set_map {ns : List Str} {Q : Unit → Shared → Prop} (X : K.In s.heap) (I : ObjM s.heap x dx C mA)
    (hs : PySem.W.findIn K (.ref C) "__setattr__" = some (some (.builtin "object.__setattr__"))) (hp : PySem.W.plainOver K C = true) (ht : PySem.W.takerIn K C name = some none) (hh : PySem.W.hasDictIn K C = true)
    (hw : PySem.Within mA ns) (hsz : ns.length ≤ sizeLine)
    (h : ∀ h', ObjM h' x dx C (fun y => if y = name then some v else mA y) → Heap.SameBut dx s.heap h' → Q () { s with heap := h', toks := s.toks + 2 }) :
    wpAny (model prog w) A (setAttr (.ref x) name v) Q E s := by
  obtain ⟨od, J, hl⟩ := I.look
  refine PySem.W.set_plain X J hs (PySem.W.osa_open (s := { s with toks := s.toks + 1 }) (r := none) X J hp ht fun b => ?_)
  obtain ⟨cd, hc, hd'⟩ := PySem.W.any_some hh
  have hx : s.heap.get? x = some ⟨.ref C, some dx, .plain, #[]⟩ := I.obj
  refine wpAny_bind (wpAny_pure (wpAny_bind (wpAny_bind (wpAny_loadPart hx (wpAny_bind (PySem.W.Looks.here (s := { s with toks := s.toks + 1 }) (PySem.W.looks_clsIn X hc) ?_))))))
  rw [hd']
  refine wpAny_pure (a := some dx) (wpAny_bind (wpAny_pure (wpAny_bind ?_)))
  refine wpAny_nsSet1 (s := { s with toks := s.toks + 1 }) I.ns fun h' hn2 hs2 => ?_
  obtain ⟨oD, esD, epD, hoD, hdD, hcD⟩ := hn2.count (PySem.Within.cons name v hw)
  refine wpAny_bind (wpAny_lookBehind hoD (by rw [hdD]; exact pastItsLine_dict (Nat.le_trans hcD (by rw [List.length_cons]; omega))) ?_)
  exact wpAny_pure (h _ ⟨(hs2.2 _ (Ne.symm I.ne)).trans I.obj, hn2, I.ne⟩ hs2)

/-- C(..): the dict at the heap's end, the instance behind it; then its __init__ -/
theorem make_map {R : Result → Shared → Prop} {vs : List Value} {kw : List (Str × Value)} (X : K.In s.heap) (hm : PySem.W.makesIn K C = true)
    (hi : PySem.W.findIn K (.ref C) "__init__" = some (some (.ref f))) (hf : PySem.W.typeIn K (.ref f) = some (.type "function"))
    (h : codeAny (model prog w) (A.under (.builtin "type.__call__" ⟨.ref C :: vs, kw⟩)) (.call (.ref f) ⟨.ref (s.heap.objs.size + 1) :: vs, kw⟩) (PySem.W.InitBack (s.heap.objs.size + 1) R)
      { s with heap := (s.heap.push PySem.W.emptyDict).push (PySem.W.instObj C s.heap.objs.size) }) :
    codeAny (model prog w) A (.call (.ref C) ⟨vs, kw⟩) R s := by
  obtain ⟨hh, g, d, t, os⟩ := s
  exact PySem.W.make_core (PySem.W.makes_of X hm) (PySem.W.looks_findIn X hi) (fun self => PySem.W.bind_fn X self hf) (.inl rfl) h
end

/-! ### the attributes as a list of pairs -/
noncomputable def putF (f : Str) (v : V) : List (Str × V) → List (Str × V)
  | [] => [(f, v)]
  | (g, x) :: r => if g = f then (g, v) :: r else (g, x) :: putF f v r
theorem lookup_putF (f g : Str) (v : V) : ∀ fs : List (Str × V), (putF f v fs).lookup g = if g = f then some v else fs.lookup g
  | [] => by
    show List.lookup g [(f, v)] = _
    by_cases h : g = f
    · have hb : (g == f) = true := beq_iff_eq.mpr h
      simp only [List.lookup, hb, if_pos h]
    · have hb : (g == f) = false := beq_eq_false_iff_ne.mpr h
      simp only [List.lookup, hb, if_neg h]
  | (k, x) :: r => by
    have ih := lookup_putF f g v r
    rw [show putF f v ((k, x) :: r) = (if k = f then (k, v) :: r else (k, x) :: putF f v r) from rfl]
    by_cases hk : k = f
    · rw [if_pos hk]
      by_cases h : g = k
      · have hb : (g == k) = true := beq_iff_eq.mpr h
        simp only [List.lookup, hb, if_pos (h.trans hk)]
      · have hb : (g == k) = false := beq_eq_false_iff_ne.mpr h
        simp only [List.lookup, hb, if_neg (fun e : g = f => h (e.trans hk.symm))]
    · rw [if_neg hk]
      by_cases h : g = k
      · have hb : (g == k) = true := beq_iff_eq.mpr h
        simp only [List.lookup, hb, if_neg (fun e : g = f => hk (h.symm.trans e))]
      · have hb : (g == k) = false := beq_eq_false_iff_ne.mpr h
        simp only [List.lookup, hb]
        exact ih
theorem keys_putF (f : Str) (v : V) : ∀ fs : List (Str × V), f ∈ (putF f v fs).map (·.1) ∧ ∀ g, g ∈ fs.map (·.1) → g ∈ (putF f v fs).map (·.1)
  | [] => ⟨by simp [putF], fun g h => by simp at h⟩
  | (k, x) :: r => by
    obtain ⟨i1, i2⟩ := keys_putF f v r
    rw [show putF f v ((k, x) :: r) = (if k = f then (k, v) :: r else (k, x) :: putF f v r) from rfl]
    by_cases hk : k = f
    · rw [if_pos hk]
      subst hk
      exact ⟨by simp, fun g h => by simpa using h⟩
    · rw [if_neg hk]
      refine ⟨?_, fun g h => ?_⟩
      · rw [List.map_cons]
        exact List.mem_cons_of_mem _ i1
      · rw [List.map_cons] at h ⊢
        rcases List.mem_cons.mp h with e | e
        · exact List.mem_cons.mpr (.inl e)
        · exact List.mem_cons_of_mem _ (i2 g e)
theorem length_putF (f : Str) (v : V) : ∀ fs : List (Str × V), (putF f v fs).length ≤ fs.length + 1
  | [] => by simp [putF]
  | (k, x) :: r => by
    have ih := length_putF f v r
    rw [show putF f v ((k, x) :: r) = (if k = f then (k, v) :: r else (k, x) :: putF f v r) from rfl]
    by_cases hk : k = f
    · rw [if_pos hk, List.length_cons, List.length_cons]; omega
    · rw [if_neg hk, List.length_cons, List.length_cons]; omega

theorem RelO.some_of {v : V} {o : Option Value} (r : RelO (some v) o) : ∃ u, o = some u ∧ RelV v u := by
  cases o with
  | none => exact (show False from r).elim
  | some u => exact ⟨u, rfl, r⟩
theorem RelO.none_of {o : Option Value} (r : RelO none o) : o = none := by
  cases o with
  | none => rfl
  | some u => exact (show False from r).elim
theorem handed_of {v : V} {u : Value} (r : RelV v u) : PySem.W.handedIn u = true := by
  cases v with
  | non => cases (show u = Value.none from r); rfl
  | bl b => cases (show u = Value.bool b from r); rfl
  | int i => obtain ⟨t, e⟩ := (show ∃ t, u = Value.int i t from r); cases e; rfl
  | str x => obtain ⟨t, e⟩ := (show ∃ t, u = Value.str x t from r); cases e; rfl
  | byt b => obtain ⟨t, e⟩ := (show ∃ t, u = Value.bytes b t from r); cases e; rfl
  | flt b => obtain ⟨t, e⟩ := (show ∃ t, u = Value.float b t from r); cases e; rfl
  | ref a => cases (show u = Value.ref a from r); rfl
  | ty n => cases (show u = Value.type n from r); rfl

section
variable {P : Program} {w : World} {H H' : Hp} {h h' : Heap} {a C dx : Addr} {fs fs' : List (Str × V)}
theorem ins_get (hok : HOk P w H h) (e : H a = some (.ins C dx fs)) : ∃ mA, ObjM h a dx C mA ∧ (∀ f, RelO (fs.lookup f) (mA f)) ∧ PySem.Within mA (fs.map (·.1)) ∧ fs.length ≤ 1000 ∧ H dx = some (.own a) := by
  obtain ⟨d, z, ne, ob, mA, n, r, q⟩ := (show ObjOk P w H h a (.ins C dx fs) from hok a _ e)
  exact ⟨mA, ⟨ob, n, ne⟩, r, q, z, d⟩
end

/-! ### what of the text a class must have -/
structure Cls (K : PySem.W.Frag) (C : Addr) : Prop where
  pg : PySem.W.plainGet K C Str.empty = true
  hd : PySem.W.hasDictIn K C = true
  po : PySem.W.plainOver K C = true
  sa : PySem.W.findIn K (.ref C) "__setattr__" = some (some (.builtin "object.__setattr__"))
theorem Cls.get {K : PySem.W.Frag} {C : Addr} (c : Cls K C) (f : Str) : PySem.W.plainGet K C f = true := c.pg
/-- no class of it has the name -/
noncomputable def NoAttr (K : PySem.W.Frag) (C : Addr) (f : Str) : Prop := PySem.W.findIn K (.ref C) f = some none
theorem NoAttr.taker {K : PySem.W.Frag} {C : Addr} {f : Str} (n : NoAttr K C f) : PySem.W.takerIn K C f = some none := by
  unfold PySem.W.takerIn
  rw [show PySem.W.findIn K (.ref C) f = some none from n]
  rfl
/-- a method: a plain def of the class or of one above it -/
structure Meth (K : PySem.W.Frag) (C : Addr) (m : Str) (f : Addr) : Prop where
  at_ : PySem.W.findIn K (.ref C) m = some (some (.ref f))
  fn : PySem.W.isFn K (.ref f) = true
  kp : PySem.W.keepIn K (.ref f) = true

section
variable {X : Cx} {pins : List (Addr × Obj)} {σ : St} {H : Hp} {s : Shared} {a C dx : Addr} {fs : List (Str × V)} {f : Str} {v : V} {A : Around} {E : Value → Shared → Prop}

theorem getattr_ok {b : Bool} {Q : Value → Shared → Prop} (I : Inv X pins σ H s) (e : H a = some (.ins C dx fs)) (c : Cls X.K C) (n : NoAttr X.K C f) (l : fs.lookup f = some v)
    (h : ∀ u s', Inv X pins σ H s' → RelV v u → Q u s') : wpAny (model X.prog X.w) A (getAttr (.ref a) f b) Q E s := by
  obtain ⟨mA, O, r, _, _, _⟩ := ins_get I.hok e
  obtain ⟨u, hu, ru⟩ := RelO.some_of (v := v) (o := mA f) (by rw [← l]; exact r f)
  exact get_map I.kIn O (c.get f) c.hd n hu (handed_of ru) (h u _ (I.tok _) ru)


theorem getmeth_ok {m : Str} {g : Addr} {pl : Sem Bool} {Q : Value × List Value → Shared → Prop} (I : Inv X pins σ H s) (e : H a = some (.ins C dx fs)) (c : Cls X.K C) (k : Meth X.K C m g) (l : fs.lookup m = none)
    (h : Q (.ref g, [.ref a]) s) : wpAny (model X.prog X.w) A (getMethod (.ref a) m pl) Q E s := by
  obtain ⟨mA, O, r, _, _, _⟩ := ins_get I.hok e
  have hn : mA m = none := RelO.none_of (by rw [← l]; exact r m)
  exact get_meth I.kIn O (c.get m) k.at_ k.fn hn h

theorem setattr_ok {y : V} {u : Value} {Q : Unit → Shared → Prop} (I : Inv X pins σ H s) (e : H a = some (.ins C dx fs)) (c : Cls X.K C) (n : NoAttr X.K C f) (hl : fs.length < 1000) (ry : RelV y u)
    (h : ∀ s', Inv X pins σ (upd H a (.ins C dx (putF f y fs))) s' → Q () s') : wpAny (model X.prog X.w) A (setAttr (.ref a) f u) Q E s := by
  obtain ⟨mA, O, r, wi, _, ho⟩ := ins_get I.hok e
  have hz : (fs.map (·.1)).length ≤ sizeLine := by rw [List.length_map, sizeLine_eq]; omega
  refine set_map I.kIn O c.sa c.po n.taker c.hd wi hz fun h' O' sb => h _ ?_
  have hd : ∃ o, h'.get? dx = some o := let ⟨o, _, _, e', _⟩ := O'.ns; ⟨o, e'⟩
  refine I.write (x := a) (e := dx) (by rw [e]; exact True.intro) (.inr ho) (fun b q hb z => (sb.2 b hb).trans z) hd ?_
  refine ⟨by rw [upd_ne O.ne]; exact ho, ?_, O.ne, O'.obj, _, O'.ns, fun g => ?_, fun g hg => ?_⟩
  · have := length_putF f y fs; omega
  · show RelO ((putF f y fs).lookup g) (if g = f then some u else mA g)
    rw [lookup_putF]
    by_cases q : g = f
    · rw [if_pos q, if_pos q]; exact ry
    · rw [if_neg q, if_neg q]; exact r g
  · by_cases q : g = f
    · rw [q]; exact (keys_putF f y fs).1
    · refine (keys_putF f y fs).2 g (wi g fun z => hg ?_)
      show (if g = f then some u else mA g) = none
      rw [if_neg q]; exact z

/-- a new instance, tracked, without attributes -/
theorem Inv.made (I : Inv X pins σ H s) : Inv X pins σ (upd (upd H s.heap.objs.size (.own (s.heap.objs.size + 1))) (s.heap.objs.size + 1) (.ins C s.heap.objs.size []))
    { s with heap := (s.heap.push PySem.W.emptyDict).push (PySem.W.instObj C s.heap.objs.size) } := by
  have e1 : (s.heap.push PySem.W.emptyDict).get? s.heap.objs.size = some PySem.W.emptyDict := Heap.get?_push_size s.heap rfl
  have e2 : ((s.heap.push PySem.W.emptyDict).push (PySem.W.instObj C s.heap.objs.size)).get? (s.heap.objs.size + 1) = some (PySem.W.instObj C s.heap.objs.size) := by
    have := Heap.get?_push_size (s.heap.push PySem.W.emptyDict) (o := PySem.W.instObj C s.heap.objs.size) rfl
    rwa [Heap.size_push] at this
  have e3 : (s.heap.push PySem.W.emptyDict).Ns s.heap.objs.size (fun _ => none) := ⟨PySem.W.emptyDict, #[], _, e1, rfl, (fun e he => absurd he (by simp)), fun _ => rfl⟩
  have I1 := I.laid (a := s.heap.objs.size) (o := .own (s.heap.objs.size + 1)) (h' := s.heap.push PySem.W.emptyDict) (t' := s.toks) (fun b u q => Heap.get?_push_of_some _ q) (Nat.le_refl _) ⟨_, e1⟩
  refine I1.laid (a := s.heap.objs.size + 1) (o := .ins C s.heap.objs.size []) (t' := s.toks) (fun b u q => Heap.get?_push_of_some _ q) (Nat.le_of_eq (Heap.size_push _ _)) ?_
  have ne : s.heap.objs.size ≠ s.heap.objs.size + 1 := Nat.ne_of_lt (Nat.lt_succ_self _)
  refine ⟨by rw [upd_ne ne, upd_same], Nat.zero_le _, ne, e2, fun _ => none, (Heap.Ns1.of_empty e3).at fun o q => Heap.get?_push_of_some _ q, fun _ => True.intro, fun y hy => absurd rfl hy⟩

/-- e.f where nothing but the object is asked: through attributeBase (super) and the last hold -/
theorem attr_of {prog : Program} {w : World} {env : Env} {e : Expr} {f : Str} {pos : Pos} {s : Shared} {Q : Value → Shared → Prop} (hb : attributeBase e f env (eval e env) = eval e env)
    (h : wpAny (model prog w) A (eval e env) (fun o s₁ => wpAny (model prog w) A (getAttr o f true) Q E s₁) E s) : wpAny (model prog w) A (eval (.Attribute e f pos) env) Q E s :=
  Attribute_any_ h (by rw [arm_eval_Attribute, hb])
end

/-! ### readings and rules -/
/-- e.f, an attribute of the instance -/
noncomputable def tFld (K : PySem.W.Frag) (ta : TE) (f : Str) : TE := fun σ H Q => ta σ H fun x H1 => ∃ a C dx fs v, x = .ref a ∧ H1 a = some (.ins C dx fs) ∧ Cls K C ∧ NoAttr K C f ∧ fs.lookup f = some v ∧ Q v H1
/-- e.f = value -/
noncomputable def sFld (K : PySem.W.Frag) (ta tv : TE) (f : Str) : TS := fun D σ H => tv σ H fun y H1 => ta σ H1 fun x H2 => ∃ a C dx fs, x = .ref a ∧ H2 a = some (.ins C dx fs) ∧ Cls K C ∧ NoAttr K C f ∧ fs.length < 1000 ∧
  D.nx σ (upd H2 a (.ins C dx (putF f y fs)))
/-- an augmented operator on two values -/
noncomputable def InOp (X : Cx) (op : Operator) (rd : V → V → Hp → VK → Prop) : Prop :=
  ∀ (pins : List (Addr × Obj)) (s : Shared) (σ : St) (H : Hp) (x y : V) (u v : Value) (Q : VK), Inv X pins σ H s → RelV x u → RelV y v → rd x y H Q → wpAny (model X.prog X.w) X.A (inplaceOp op u v) (EP X pins σ Q) X.xe s
/-- e.f op= value -/
noncomputable def sFldAug (K : PySem.W.Frag) (ta tv : TE) (rd : V → V → Hp → VK → Prop) (f : Str) : TS := fun D σ H => ta σ H fun x H1 => ∃ a C dx fs v, x = .ref a ∧ H1 a = some (.ins C dx fs) ∧ Cls K C ∧ NoAttr K C f ∧ fs.lookup f = some v ∧
  tv σ H1 fun y H2 => rd v y H2 fun z H3 => ∃ dx' fs', H3 a = some (.ins C dx' fs') ∧ fs'.length < 1000 ∧ D.nx σ (upd H3 a (.ins C dx' (putF f z fs')))

section
variable {X : Cx} {o e value : Expr} {f : Str} {pos pos' tpos : Pos} {ta tv : TE}
theorem pe_fld (he : PE X e ta) (hb : attributeBase e f X.env (eval e X.env) = eval e X.env) : PE X (.Attribute e f pos) (tFld X.K ta f) := by
  intro pins s σ H Q I h
  refine attr_of hb (thn (he pins s σ H _ I h) fun u s1 ⟨x, H1, I1, rx, a, C, dx, fs, v, ex, ea, c, n, l, q⟩ => ?_)
  subst ex
  obtain rfl : u = Value.ref a := rx
  exact getattr_ok I1 ea c n l fun u' s2 I2 ru => ⟨v, H1, I2, ru, q⟩
theorem ps_fld (ha : PE X o ta) (hv : PE X value tv) (hs : swapsWith value (some (.Attribute o f pos')) pos.line X.env = pure false) : PS X (.Assign [.Attribute o f pos'] value pos) (sFld X.K ta tv f) := by
  intro pins s σ H D I h
  refine plainObj_wpAny_Assign_Attribute (thn (hv pins s σ H _ I h) fun u s1 ⟨y, H1, I1, ry, q⟩ => thn (ha pins s1 σ H1 _ I1 q) fun ov s2 ⟨x, H2, I2, rx, a, C, dx, fs, ex, ea, c, n, l, q2⟩ => ?_) hs
  subst ex
  obtain rfl : ov = Value.ref a := rx
  exact setattr_ok I2 ea c n l ry fun s3 I3 => ⟨σ, _, I3, q2⟩
theorem ps_fldaug {op : Operator} {rd : V → V → Hp → VK → Prop} (ha : PE X o ta) (hv : PE X value tv) (hop : InOp X op rd) : PS X (.AugAssign (.Attribute o f tpos) op value pos) (sFldAug X.K ta tv rd f) := by
  intro pins s σ H D I h
  refine wpAny_AugAssign_AttributeAny (thn (ha pins s σ H _ I h) fun ov s1 ⟨x, H1, I1, rx, a, C, dx, fs, v, ex, ea, c, n, l, q⟩ => ?_)
  subst ex
  obtain rfl : ov = Value.ref a := rx
  refine getattr_ok I1 ea c n l fun u s2 I2 ru => thn (hv pins s2 σ H1 _ I2 q) fun w3 s3 ⟨y, H2, I3, ry, q3⟩ => thn (hop pins s3 σ H2 v y u w3 _ I3 ru ry q3) fun w4 s4 ⟨z, H3, I4, rz, dx', fs', ea', l', q4⟩ => ?_
  exact setattr_ok I4 ea' c n l' rz fun s5 I5 => ⟨σ, _, I5, q4⟩
noncomputable def rAdd : V → V → Hp → VK → Prop := fun x y H Q => ∃ i j, x = .int i ∧ y = .int j ∧ Q (.int (i + j)) H
theorem in_add : InOp X .Add rAdd := by
  rintro pins s σ H x y u v Q I rx ry ⟨i, j, rfl, rfl, q⟩
  obtain ⟨t, rfl⟩ := (show ∃ t, u = Value.int i t from rx)
  obtain ⟨t', rfl⟩ := (show ∃ t', v = Value.int j t' from ry)
  exact PyProof.Rows.iadd_int ⟨.int (i + j), H, I.tok _, ⟨_, rfl⟩, q⟩

end

/-! ### isinstance -/
section
variable {X : Cx} {pins : List (Addr × Obj)} {σ : St} {H : Hp} {s : Shared} {A : Around} {E : Value → Shared → Prop} {Q : Value → Shared → Prop} {c : Value} {b : Bool}
end
end L2

namespace L2
open PySem PySem.Spec PyProof.Rows

/-! ### room -/
structure Room (k : Nat) (A : Around) : Prop where
  hd : A.handled = none
  dp : A.depth + 3 * k + 5 < recursionLimit
  un : A.units + 16 * k + 200 < cLine
theorem Room.mono {j k : Nat} {A : Around} (r : Room k A) (h : j ≤ k) : Room j A := ⟨r.hd, by have := r.dp; omega, by have := r.un; omega⟩
theorem Room.deeper {k : Nat} {A : Around} (r : Room (k + 1) A) (env : Env) : Room k (A.deeper env) :=
  ⟨r.hd, by have := r.dp; show A.depth + 1 + 3 * k + 5 < _; omega, by have := r.un; show A.units + 3 + 16 * k + 200 < _; omega⟩
theorem make_depth {A : Around} {C : Addr} {us : List Value} {kw : List (Str × Value)} : (A.under (.builtin "type.__call__" ⟨.ref C :: us, kw⟩)).depth = A.depth + 1 := by
  first | rfl | simp [Around.under, Code.weight, Code.isCreation, Code.isGuard, Code.isCaller, Code.frames, Code.isFrame, guardIds]
theorem make_units {A : Around} {C : Addr} {us : List Value} {kw : List (Str × Value)} : (A.under (.builtin "type.__call__" ⟨.ref C :: us, kw⟩)).units = A.units + 1 := by
  first | rfl | simp [Around.under, Code.cUnits, Code.frames, Code.isFrame]
theorem Room.make {k : Nat} {A : Around} (r : Room (k + 1) A) (C : Addr) (us : List Value) (kw : List (Str × Value)) : Room k (A.under (.builtin "type.__call__" ⟨.ref C :: us, kw⟩)) :=
  ⟨r.hd, by have := r.dp; rw [make_depth]; omega, by have := r.un; rw [make_units]; omega⟩
theorem Room.depth {k : Nat} {A : Around} (r : Room k A) : A.depth < recursionLimit := by have := r.dp; omega

/-! ### argument lists and displays -/
noncomputable def tNil : TA := fun _ H Q => Q [] H
noncomputable def tCons (ta : TE) (tr : TA) : TA := fun σ H Q => ta σ H fun x H1 => tr σ H1 fun xs H2 => Q (x :: xs) H2
section
variable {X : Cx} {e : Expr} {es : List Expr} {te : TE} {t : TA} {pos : Pos}
theorem pa_nil : PA X [] tNil := fun _ _ _ _ H Q I h => Calls.spliced_nil ⟨[], H, I, .nil, h⟩
theorem pa_cons (ha : PE X e te) (hr : PA X es t) (hs : starEach (e :: es) X.env = (false, eval e X.env) :: starEach es X.env := by rfl) : PA X (e :: es) (tCons te t) := by
  intro pos pins s σ H Q I h
  rw [hs]
  show wpAny _ _ (spliced ((false, eval e X.env) :: backTo pos (starEach es X.env))) _ _ s
  refine Calls.spliced_cons (thn (ha pins s σ H _ I h) fun u s1 ⟨x, H1, I1, r1, q1⟩ => ?_)
  exact thn (hr pos pins s1 σ H1 _ I1 q1) fun us s2 ⟨xs, H2, I2, r2, q2⟩ => ⟨x :: xs, H2, I2, .cons r1 r2, q2⟩

noncomputable def tLst (t : TA) : TE := fun σ H Q => t σ H fun xs H1 => xs.length ≤ sizeLine ∧ ∀ p, H1 p = none → Q (.ref p) (upd H1 p (.lst xs))
theorem pe_lst (h : PA X es t) : PE X (.List es pos) (tLst t) := by
  intro pins s σ H Q I hq
  refine wpAny_List_spliced (thn (h pos pins s σ H _ I hq) fun us s1 ⟨xs, H1, I1, r, z, q⟩ => ⟨by rw [← r.length]; exact z, ?_⟩)
  have hf : H1 s1.heap.objs.size = none := I1.hok.fresh (Nat.le_refl _)
  refine ⟨.ref s1.heap.objs.size, upd H1 s1.heap.objs.size (.lst xs), I1.laid (t' := s1.toks) (fun b u e => Heap.get?_push_of_some _ e) (Nat.le_refl _) ?_, rfl, q _ hf⟩
  exact ⟨z, us, 0, r, Heap.get?_push_size _ rfl⟩
end

/-! ### what a def promises -/
/-- a def's promise: the bound arguments in the parameters' order, the heap, the wanted end, the wanted exception -/
noncomputable abbrev Sp := List V → Hp → VK → XK → Prop
/-- how an exception lies behind a call (file 08 gives it): the callers' frames, abstract heap and state ahead of the call, the wish, the exception, the state -/
noncomputable abbrev CXT := List Env → Hp → Shared → XK → Value → Shared → Prop

/-- the state at a call -/
structure Env0 (P : Program) (w : World) (K : PySem.W.Frag) (mg : Str → Option Value) (base : Heap) (A : Around) (outer : List Env) (s : Shared) (H : Hp) : Prop where
  frames : A.frames = some outer
  mod : Mod K mg base
  bs : ∀ b o, base.get? b = some o → s.heap.get? b = some o ∧ H b = none
  bsz : base.objs.size ≤ s.heap.objs.size
  funs : s.heap.FunFrames base outer
  frf : ∀ b ∈ frs outer, H b = none
  hok : HOk P w H s.heap
  bare : AllBare s.gens
/-- a call's end -/
noncomputable def CE (outer : List Env) (P : Program) (w : World) (H : Hp) (s : Shared) (Q : VK) (u : Value) (s' : Shared) : Prop :=
  ∃ v H', s'.os = s.os ∧ AllBare s'.gens ∧ Un (frs outer) [] H H' s.heap s'.heap ∧ HOk P w H' s'.heap ∧ RelV v u ∧ Q v H'
noncomputable def CR (CX : CXT) (outer : List Env) (P : Program) (w : World) (H : Hp) (s : Shared) (Q : VK) (E : XK) (r : Result) (s' : Shared) : Prop :=
  match r with
  | .ok (.ret u) => CE outer P w H s Q u s'
  | .ok _ => False
  | .error e => CX outer H s E e s'
structure FnOk (P : Program) (w : World) (K : PySem.W.Frag) (mg : Str → Option Value) (base : Heap) (CX : CXT) (k : Nat) (f : Addr) (fd : FuncData) (ps : List Str) (sp : Sp) : Prop where
  len : ∀ vs H Q E, sp vs H Q E → vs.length = ps.length
  run : ∀ (A : Around) (outer : List Env) (s : Shared) (H : Hp) (args : Args) (us : List Value) (vs : List V) (Q : VK) (E : XK), Room k A → Env0 P w K mg base A outer s H → BindsTo s fd args (ps.zip us) → Vals vs us → sp vs H Q E →
    codeAny (model P w) A (.call (.ref f) args) (CR CX outer P w H s Q E) s

theorem Env0.make {P : Program} {w : World} {K : PySem.W.Frag} {mg : Str → Option Value} {base : Heap} {A : Around} {outer : List Env} {s : Shared} {H : Hp} (e : Env0 P w K mg base A outer s H) (C : Addr) (us : List Value) (kw : List (Str × Value)) :
    Env0 P w K mg base (A.under (.builtin "type.__call__" ⟨.ref C :: us, kw⟩)) outer s H := ⟨by first | exact e.frames | (simpa [Around.under, Code.envs, Code.isFrame, pushEnvs] using e.frames), e.mod, e.bs, e.bsz, e.funs, e.frf, e.hok, e.bare⟩

section
variable {X : Cx} {pins : List (Addr × Obj)} {σ : St} {H : Hp} {s s' : Shared}
/-- from a body: what a callee wants -/
theorem Inv.env0 (I : Inv X pins σ H s) : Env0 X.prog X.w X.K X.mg X.base X.A X.stack s H :=
  ⟨I.ok.frames, I.ok.mod, I.bs, Nat.le_trans I.ok.bsz I.sz, I.stack, I.stkFree, I.hok, I.bare⟩
/-- behind a call -/
theorem Inv.after {Q : VK} {u : Value} (I : Inv X pins σ H s) (h : CE X.stack X.prog X.w H s Q u s') : EP X pins σ Q u s' := by
  obtain ⟨v, H', os, bare, un, hok, r, q⟩ := h
  obtain ⟨hh, g, d, t, os'⟩ := s'
  obtain rfl : os' = s.os := os
  exact ⟨v, H', I.call (h' := hh) (g' := g) (d' := d) (t' := t) (ch := []) un hok bare (fun b z => absurd z (by simp)), r, q⟩
end

/-! ### calls -/
/-- f(..): the written arguments, then the defaults dvs; E: what is wanted of an exception -/
noncomputable def tCall (sp : Sp) (dvs : List V) (E : XK) (t : TA) : TE := fun σ H Q => t σ H fun vs H1 => sp (vs ++ dvs) H1 Q E
/-- o.m(..) of an instance of the class at C -/
noncomputable def tMeth (C : Addr) (m : Str) (sp : Sp) (dvs : List V) (E : XK) (ta : TE) (t : TA) : TE := fun σ H Q => ta σ H fun x H1 => ∃ a dx fs, x = .ref a ∧ H1 a = some (.ins C dx fs) ∧ fs.lookup m = none ∧
  t σ H1 fun vs H2 => sp (x :: (vs ++ dvs)) H2 Q E
/-- C(..): a new instance and its dict, then __init__ -/
noncomputable def tMake (C : Addr) (sp : Sp) (dvs : List V) (E : XK) (t : TA) : TE := fun σ H Q => t σ H fun vs H1 => ∀ x dx, H1 x = none → H1 dx = none → dx ≠ x →
  sp (.ref x :: (vs ++ dvs)) (upd (upd H1 dx (.own x)) x (.ins C dx [])) (fun v H2 => v = .non ∧ Q (.ref x) H2) E

/-- how the parameters are bound: us the positional arguments, kw the keywords' values by name, ds the defaults that fill up -/
noncomputable def Binds (K : PySem.W.Frag) (fd : FuncData) (ps : List Str) (ds : List Value) : Prop :=
  ∀ (s : Shared) (us : List Value), K.In s.heap → (us ++ ds).length = ps.length → BindsTo s fd ⟨us, []⟩ (ps.zip (us ++ ds))
/-- every parameter is given -/
theorem Binds.all {K : PySem.W.Frag} {fd : FuncData} {ps : List Str} (h : ∀ us : List Value, us.length = ps.length → bindArgs fd ⟨us, []⟩ = pure (ps.zip us)) : Binds K fd ps [] := fun s us _ hl => by
  rw [List.append_nil] at hl ⊢
  exact .of_eq (h us hl)

/-- an exception of a callee reaches what this body wants of exceptions -/
noncomputable def Passes (CX : CXT) (X : Cx) (E : XK) : Prop := ∀ (pins : List (Addr × Obj)) (σ : St) (H : Hp) (s : Shared) (e : Value) (s' : Shared), Inv X pins σ H s → CX X.stack H s E e s' → X.xe e s'

section
variable {X : Cx} {CX : CXT} {k : Nat} {f C : Addr} {fd : FuncData} {ps : List Str} {sp : Sp} {dvs : List V} {ds : List Value} {E : XK} {x m : Str} {p pos apos : Pos} {e o : Expr} {es : List Expr} {ta : TE} {t : TA}

/-- the callee runs -/
theorem run_fn {pins : List (Addr × Obj)} {σ : St} {H : Hp} {s : Shared} {Q : VK} {us : List Value} {vs : List V} (F : FnOk X.prog X.w X.K X.mg X.base CX k f fd ps sp) (hr : Room k X.A) (hb : Binds X.K fd ps ds) (hd : Vals dvs ds) (hx : Passes CX X E)
    (I : Inv X pins σ H s) (r : Vals vs us) (h : sp (vs ++ dvs) H Q E) : wpAny (model X.prog X.w) X.A (call (.ref f) us) (EP X pins σ Q) X.xe s := by
  have r2 : Vals (vs ++ dvs) (us ++ ds) := r.append hd
  have hl : (us ++ ds).length = ps.length := by rw [← r2.length]; exact F.len _ _ _ _ h
  refine wpAny_call (codeAny_mono (F.run X.A X.stack s H ⟨us, []⟩ (us ++ ds) (vs ++ dvs) Q E hr I.env0 (hb s us I.kIn hl) r2 h) fun r s' hq => ?_)
  cases r with
  | error e => exact hx pins σ H s e s' I hq
  | ok fl =>
    cases fl with
    | ret u => exact I.after hq
    | next => exact False.elim hq
    | brk => exact False.elim hq
    | cont => exact False.elim hq

theorem pe_call (F : FnOk X.prog X.w X.K X.mg X.base CX k f fd ps sp) (hr : Room k X.A) (hg : Gl X x) (hm : X.mg x = some (.ref f)) (hk : PySem.W.keepIn X.K (.ref f) = true) (hb : Binds X.K fd ps ds) (hd : Vals dvs ds) (hx : Passes CX X E)
    (ha : PA X (e :: es) t) (hdb : (x == ("__debug__" : Str)) = false := by decide) (he : starEach (e :: es) X.env = (false, eval e X.env) :: starEach es X.env := by rfl) (hpl : (backTo pos (starEach es X.env)).any (·.1) = false := by rfl) :
    PE X (.Call (.Name x p) (e :: es) [] pos) (tCall sp dvs E t) := by
  intro pins s σ H Q I h
  refine wpAny_Call_Name_kw (ld_glob I hg hm ?_ hdb)
  refine PySem.W.callWith_K (h₀ := X.base) I.ok.mod.kin hk (thn (ha pos pins s σ H _ I h) fun us s1 ⟨vs, H1, I1, r, q⟩ => ⟨I1.kIn, ?_⟩) he hpl
  exact run_fn F hr hb hd hx I1 r q

/-- o.m(e, ..) -/
theorem pe_meth {pl : Sem Bool} (he : PE X o ta) (c : Cls X.K C) (hm : Meth X.K C m f) (F : FnOk X.prog X.w X.K X.mg X.base CX k f fd ps sp) (hr : Room k X.A) (hb : Binds X.K fd ps ds) (hd : Vals dvs ds) (hx : Passes CX X E) (ha : PA X (e :: es) t)
    (hst : starEach (e :: es) X.env = (false, eval e X.env) :: starEach es X.env := by rfl) (hpl : (backTo pos (starEach es X.env)).any (·.1) = false := by rfl)
    (ht : eval (.Call (.Attribute o m apos) (e :: es) [] pos) X.env = (do
      let ov ← eval o X.env
      standAt apos.atName
      let (f, first) ← holding [ov] (getMethod ov m pl)
      callWith pos f first (backTo pos (starEach (e :: es) X.env)) (backToKw pos (keywordEach [] X.env))) := by rfl) :
    PE X (.Call (.Attribute o m apos) (e :: es) [] pos) (tMeth C m sp dvs E ta t) := by
  intro pins s σ H Q I h
  refine PySem.W.methodCall_KW (pl := pl) (thn (he pins s σ H _ I h) fun u s1 ⟨x, H1, I1, rx, a, dx, fs, ex, ea, l, q⟩ => ?_) ht
  subst ex
  obtain rfl : u = Value.ref a := rx
  refine getmeth_ok I1 ea c hm l ?_
  refine PySem.W.callWith_K (first := [.ref a]) (h₀ := X.base) I.ok.mod.kin hm.kp (thn (ha pos pins s1 σ H1 _ I1 q) fun us s2 ⟨vs, H2, I2, r, q2⟩ => ⟨I2.kIn, ?_⟩) hst hpl
  exact run_fn (us := .ref a :: us) (vs := .ref a :: vs) F hr hb hd hx I2 (.cons rfl r) q2
/-- o.m() -/
theorem pe_meth0 {pl : Sem Bool} (he : PE X o ta) (c : Cls X.K C) (hm : Meth X.K C m f) (F : FnOk X.prog X.w X.K X.mg X.base CX k f fd ps sp) (hr : Room k X.A) (hb : Binds X.K fd ps ds) (hd : Vals dvs ds) (hx : Passes CX X E)
    (ht : eval (.Call (.Attribute o m apos) [] [] pos) X.env = (do
      let ov ← eval o X.env
      standAt apos.atName
      let (f, first) ← holding [ov] (getMethod ov m pl)
      callWith pos f first (backTo pos (starEach [] X.env)) (backToKw pos (keywordEach [] X.env))) := by rfl) :
    PE X (.Call (.Attribute o m apos) [] [] pos) (tMeth C m sp dvs E ta tNil) := by
  intro pins s σ H Q I h
  refine PySem.W.methodCall_KW (pl := pl) (thn (he pins s σ H _ I h) fun u s1 ⟨x, H1, I1, rx, a, dx, fs, ex, ea, l, q⟩ => ?_) ht
  subst ex
  obtain rfl : u = Value.ref a := rx
  refine getmeth_ok I1 ea c hm l ?_
  exact PySem.W.callWith_K0 (first := [.ref a]) I1.kIn hm.kp (run_fn (us := [.ref a]) (vs := [.ref a]) F hr hb hd hx I1 (.cons rfl .nil) q)

/-- what a class must have to be made -/
structure Mk (K : PySem.W.Frag) (C f : Addr) : Prop where
  makes : PySem.W.makesIn K C = true
  init : PySem.W.findIn K (.ref C) "__init__" = some (some (.ref f))
  fn : PySem.W.isFn K (.ref f) = true
  kp : PySem.W.keepIn K (.ref C) = true

theorem run_make {pins : List (Addr × Obj)} {σ : St} {H : Hp} {s : Shared} {Q : VK} {us : List Value} {vs : List V} (M : Mk X.K C f) (F : FnOk X.prog X.w X.K X.mg X.base CX k f fd ps sp) (hr : Room (k + 1) X.A) (hb : Binds X.K fd ps ds) (hd : Vals dvs ds)
    (hx : Passes CX X E) (I : Inv X pins σ H s) (r : Vals vs us)
    (h : ∀ x dx, H x = none → H dx = none → dx ≠ x → sp (.ref x :: (vs ++ dvs)) (upd (upd H dx (.own x)) x (.ins C dx [])) (fun v H2 => v = .non ∧ Q (.ref x) H2) E) :
    wpAny (model X.prog X.w) X.A (call (.ref C) us) (EP X pins σ Q) X.xe s := by
  have hq := h (s.heap.objs.size + 1) s.heap.objs.size (I.hok.fresh (Nat.le_succ _)) (I.hok.fresh (Nat.le_refl _)) (Nat.ne_of_lt (Nat.lt_succ_self _))
  have I2 := Inv.made (C := C) I
  have r2 : Vals (V.ref (s.heap.objs.size + 1) :: (vs ++ dvs)) (Value.ref (s.heap.objs.size + 1) :: (us ++ ds)) := .cons rfl (r.append hd)
  have hl : (Value.ref (s.heap.objs.size + 1) :: us ++ ds).length = ps.length := by
    have e := r2.length
    rw [F.len _ _ _ _ hq] at e
    exact e.symm
  refine wpAny_call (make_map (f := f) I.kIn M.makes M.init (beq_iff_eq.mp M.fn) (codeAny_mono (F.run _ X.stack _ _ ⟨Value.ref (s.heap.objs.size + 1) :: us, []⟩ (Value.ref (s.heap.objs.size + 1) :: (us ++ ds)) _ _ E (hr.make C us [])
    (I2.env0.make C us []) (hb _ (Value.ref (s.heap.objs.size + 1) :: us) I2.kIn hl) r2 hq) fun r s' hq' => ?_))
  cases r with
  | error e => exact hx pins σ _ _ e s' I2 hq'
  | ok fl =>
    cases fl with
    | ret u =>
      obtain ⟨v, H', I3, rv, ev, q3⟩ := I2.after hq'
      subst ev
      exact ⟨rv, ⟨V.ref (s.heap.objs.size + 1), H', I3, rfl, q3⟩⟩
    | next => exact False.elim hq'
    | brk => exact False.elim hq'
    | cont => exact False.elim hq'
theorem pe_make (M : Mk X.K C f) (F : FnOk X.prog X.w X.K X.mg X.base CX k f fd ps sp) (hr : Room (k + 1) X.A) (hg : Gl X x) (hm : X.mg x = some (.ref C)) (hb : Binds X.K fd ps ds) (hd : Vals dvs ds) (hx : Passes CX X E)
    (ha : PA X (e :: es) t) (hdb : (x == ("__debug__" : Str)) = false := by decide) (he : starEach (e :: es) X.env = (false, eval e X.env) :: starEach es X.env := by rfl) (hpl : (backTo pos (starEach es X.env)).any (·.1) = false := by rfl) :
    PE X (.Call (.Name x p) (e :: es) [] pos) (tMake C sp dvs E t) := by
  intro pins s σ H Q I h
  refine wpAny_Call_Name_kw (ld_glob I hg hm ?_ hdb)
  refine PySem.W.callWith_K (h₀ := X.base) I.ok.mod.kin M.kp (thn (ha pos pins s σ H _ I h) fun us s1 ⟨vs, H1, I1, r, q⟩ => ⟨I1.kIn, ?_⟩) he hpl
  exact run_make M F hr hb hd hx I1 r q
theorem pe_make0 (M : Mk X.K C f) (F : FnOk X.prog X.w X.K X.mg X.base CX k f fd ps sp) (hr : Room (k + 1) X.A) (hg : Gl X x) (hm : X.mg x = some (.ref C)) (hb : Binds X.K fd ps ds) (hd : Vals dvs ds) (hx : Passes CX X E)
    (hdb : (x == ("__debug__" : Str)) = false := by decide) : PE X (.Call (.Name x p) [] [] pos) (tMake C sp dvs E tNil) := by
  intro pins s σ H Q I h
  refine wpAny_Call_Name_kw (ld_glob I hg hm ?_ hdb)
  exact PySem.W.callWith_K0 I.kIn M.kp (run_make (us := []) M F hr hb hd hx I .nil h)
end

/-! ### keywords -/
section
variable {X : Cx} {CX : CXT} {k : Nat} {f C : Addr} {fd : FuncData} {ps ks : List Str} {sp : Sp} {E : XK} {x m : Str} {p pos apos kpos : Pos} {e o : Expr} {es : List Expr} {kws : List Keyword} {te ta : TE} {t tk : TA} {nm : Option Str}

variable {g : List Value → List Value → List Value} {gV : List V → List V → List V}
end

/-! ### a def's body keeps its promise -/
/-- names: the parameters first -/
structure FnScope (N P : List Str) (sc : Scope) : Prop where
  kind : sc.kind = .function
  co : sc.isCoroutine = false
  gen : sc.isGenerator = false
  nd : N.Nodup
  pre : N.take P.length = P
  par : ∀ x ∈ P, sc.names.lookup x = some .local ∨ sc.names.lookup x = some .cell
  nofree : ∀ y ∈ sc.names, y.2 ≠ .free

theorem bindL_out {kindOf : Str → Option NameKind} {x : Str} : ∀ {binds : List (Str × Value)} {m : Str → Option Value}, (∀ v, (x, v) ∉ binds) → bindL kindOf binds m x = m x
  | [], _, _ => rfl
  | (n, v) :: r, m, h => by
    unfold bindL
    rw [bindL_out fun w hw => h w (List.mem_cons_of_mem _ hw)]
    split
    · have : x ≠ n := by rintro rfl; exact h v List.mem_cons_self
      simp [this]
    · rfl
theorem bindC_out {kindOf : Str → Option NameKind} {x : Str} : ∀ {binds : List (Str × Value)} {m : Str → Option Value}, (∀ v, (x, v) ∉ binds) → bindC kindOf binds m x = m x
  | [], _, _ => rfl
  | (n, v) :: r, m, h => by
    unfold bindC
    rw [bindC_out fun w hw => h w (List.mem_cons_of_mem _ hw)]
    split
    · rfl
    · have : x ≠ n := by rintro rfl; exact h v List.mem_cons_self
      simp [this]
theorem bindL_get {kindOf : Str → Option NameKind} {x : Str} {v : Value} : ∀ {P : List Str} {vs : List Value} {i : Nat} {m : Str → Option Value}, P.Nodup → P[i]? = some x → vs[i]? = some v → kindOf x = some .local →
    bindL kindOf (P.zip vs) m x = some v
  | [], _, _, _, _, h, _, _ => by simp at h
  | _ :: _, [], _, _, _, _, h, _ => by simp at h
  | p :: P, w :: vs, 0, m, nd, h1, h2, hk => by
    simp at h1 h2; subst h1; subst h2
    show bindL kindOf ((p, w) :: P.zip vs) m p = _
    unfold bindL
    rw [bindL_out fun v hv => (List.nodup_cons.mp nd).1 (List.of_mem_zip hv).1, if_pos hk]
    simp
  | p :: P, w :: vs, i + 1, m, nd, h1, h2, hk => by
    show bindL kindOf ((p, w) :: P.zip vs) m x = _
    unfold bindL
    exact bindL_get (i := i) (List.nodup_cons.mp nd).2 (by simpa using h1) (by simpa using h2) hk
theorem bindC_get {kindOf : Str → Option NameKind} {x : Str} {v : Value} : ∀ {P : List Str} {vs : List Value} {i : Nat} {m : Str → Option Value}, P.Nodup → P[i]? = some x → vs[i]? = some v → kindOf x ≠ some .local →
    bindC kindOf (P.zip vs) m x = some v
  | [], _, _, _, _, h, _, _ => by simp at h
  | _ :: _, [], _, _, _, _, h, _ => by simp at h
  | p :: P, w :: vs, 0, m, nd, h1, h2, hk => by
    simp at h1 h2; subst h1; subst h2
    show bindC kindOf ((p, w) :: P.zip vs) m p = _
    unfold bindC
    rw [bindC_out fun v hv => (List.nodup_cons.mp nd).1 (List.of_mem_zip hv).1, if_neg hk]
    simp
  | p :: P, w :: vs, i + 1, m, nd, h1, h2, hk => by
    show bindC kindOf ((p, w) :: P.zip vs) m x = _
    unfold bindC
    exact bindC_get (i := i) (List.nodup_cons.mp nd).2 (by simpa using h1) (by simpa using h2) hk

/-- the names' values at the entry -/
noncomputable def start (N : List Str) (vs : List V) : St := vs.map some ++ List.replicate (N.length - vs.length) none

/-- the context of a def's body, at its entry; an exception leaves the frame, then lies as CX says -/
noncomputable def cxOf (CX : CXT) (P : Program) (w : World) (K : PySem.W.Frag) (mg : Str → Option Value) (base : Heap) (N : List Str) (qual : Str) (scope : Scope) (f : Addr) (cd : Value) (A : Around) (outer : List Env) (s : Shared) (H : Hp) (E : XK) : Cx where
  prog := P
  w := w
  K := K
  mg := mg
  base := base
  A := A.deeper (envOfC qual scope s.heap.objs.size f cd)
  N := N
  s₀ := s
  H₀ := H
  env := envOfC qual scope s.heap.objs.size f cd
  outer := outer
  stack := envOfC qual scope s.heap.objs.size f cd :: outer
  ex := []
  calm := true
  fn := fun _ => true
  pn := []
  xe := fun e s' => wpAny (model P w) (A.deeper (envOfC qual scope s.heap.objs.size f cd)) (leaving (envOfC qual scope s.heap.objs.size f cd) e) (fun _ s'' => CX outer H s E e s'') (fun e' s'' => CX outer H s E e' s'') s'

theorem cell_has {sc : Scope} {n : Nat} {x : Str} (h : sc.names.lookup x = some .cell) : ∃ c, (cellsFrom n sc.names []).lookup x = some c := by
  have q := PySem.W.cellsFrom_some sc.names n [] (.inl h)
  exact Option.isSome_iff_exists.mp q

theorem inv_start {CX : CXT} {P : Program} {w : World} {K : PySem.W.Frag} {mg : Str → Option Value} {base : Heap} {N ps : List Str} {qual : Str} {scope : Scope} {f : Addr} {cd : Value} {A : Around} {outer : List Env} {s s1 : Shared} {H : Hp} {E : XK} {us : List Value} {vs : List V}
    (S : FnScope N ps scope) (hd : A.handled = none) (e0 : Env0 P w K mg base A outer s H) (hl : vs.length = ps.length) (r : Vals vs us)
    (x : InCallC s s.heap.objs.size (bindL (envOfC qual scope s.heap.objs.size f cd).kindOf (ps.zip us) fun _ => none) (cellsFrom (s.heap.objs.size + 1) scope.names []) (bindC (envOfC qual scope s.heap.objs.size f cd).kindOf (ps.zip us) fun _ => none) s1) :
    Inv (cxOf CX P w K mg base N qual scope f cd A outer s H E) [] (start N vs) H s1 := by
  have hpl : ps.length ≤ N.length := by have := congrArg List.length S.pre; rw [List.length_take] at this; omega
  obtain ⟨h1, tk, rfl, hk⟩ := x.done
  have noA : ∀ b : Addr, b ∉ (cxOf CX P w K mg base N qual scope f cd A outer s H E).ex := fun b z => absurd (show b ∈ ([] : List Addr) from z) (by simp)
  refine ⟨⟨e0.mod, S.kind, rfl, rfl, Nat.le_refl _, fun y z c h1 h2 => ?_, fun y hy => ?_, fun y c _ h => ?_, fun _ => hd, Around.frames_deeper e0.frames, .inr ⟨rfl, rfl⟩, fun b z => absurd z (noA b), e0.bs, e0.bsz, fun b _ _ => noA b, fun b z => absurd z (noA b), e0.funs, e0.frf⟩,
    rfl, e0.bare, Un.kept hk, ⟨_, x.toInCall.ns, fun i y v h1 h2 h3 => ?_⟩, fun y c h => ⟨_, x.cell y c h⟩, e0.hok.fresh (Nat.le_refl _), fun y c h => ?_, fun p hp => absurd (show p ∈ ([] : List (Addr × Obj)) from hp) (by simp), e0.hok.kept hk, ?_⟩
  · exact name_of_addr x.apart (PySem.mem_of_lookup h1) (PySem.mem_of_lookup h2)
  · have hy : scope.names.lookup y = some .cell ∨ scope.names.lookup y = some .free := hy
    rcases hy with hy | hy
    · exact cell_has hy
    · exact absurd rfl (S.nofree _ (PySem.mem_of_lookup hy))
  · exact Nat.le_of_lt (x.above y c (PySem.mem_of_lookup h))
  · have hi : i < vs.length := by
      unfold start at h2
      by_cases hi : i < vs.length
      · exact hi
      · rw [List.getElem?_append_right (by simpa using hi)] at h2
        rw [List.getElem?_replicate] at h2
        split at h2 <;> cases h2
    have ha : vs[i]? = some v := by
      unfold start at h2
      rw [List.getElem?_append_left (by simpa using hi), List.getElem?_map] at h2
      cases e : vs[i]? with
      | none => rw [e] at h2; cases h2
      | some a => rw [e] at h2; cases h2; rfl
    obtain ⟨u, hu, rv⟩ := r.get ha
    have hp : ps[i]? = some y := by
      rw [← S.pre, List.getElem?_take_of_lt (by omega)]; exact h1
    have ndP : ps.Nodup := by rw [← S.pre]; exact S.nd.sublist (List.take_sublist _ _)
    refine ⟨u, rv, ?_⟩
    rcases S.par y (List.mem_of_getElem? hp) with k | k
    · exact .inl ⟨k, bindL_get ndP hp hu k⟩
    · obtain ⟨c, e⟩ := cell_has (n := s.heap.objs.size + 1) k
      refine .inr ⟨.inl k, c, e, ?_⟩
      have q := x.cell y c e
      rw [bindC_get ndP hp hu (by show scope.names.lookup y ≠ _; rw [k]; decide)] at q
      exact q
  · exact e0.hok.fresh (Nat.le_of_lt (x.above y c (PySem.mem_of_lookup h)))
  · unfold start
    show _ = N.length
    rw [List.length_append, List.length_map, List.length_replicate]
    omega

/-- THE RULE: a def (or a method) of the text, by its body. The body's reading t is chosen for each entry; it is run at the parameters' values -/
theorem fn_of {CX : CXT} {P : Program} {w : World} {K : PySem.W.Frag} {mg : Str → Option Value} {base : Heap} {k : Nat} {f : Addr} {name qual : Str} {params : Arguments} {body : List Stmt} {scope : Scope} {dV kV doc pm cdv ct oc : Value} {an od : Option Addr}
    {osl : Array (Option Value)} {N ps : List Str} {sp : Sp} (lk : K.lookup f = some ⟨oc, od, .func (PySem.W.fnOf name qual params body scope dV kV doc pm an cdv ct), osl⟩) (hcd : PySem.W.codeIn K cdv qual = true) (S : FnScope N ps scope)
    (len : ∀ vs H Q E, sp vs H Q E → vs.length = ps.length)
    (hbody : ∀ (A : Around) (outer : List Env) (s : Shared) (H : Hp) (vs : List V) (Q : VK) (E : XK), Room k (A.deeper (envOfC qual scope s.heap.objs.size f cdv)) → sp vs H Q E →
      ∃ t, PSs (cxOf CX P w K mg base N qual scope f cdv A outer s H E) body t ∧ t { nx := fun _ H' => Q .non H', rt := Q } (start N vs) H) :
    FnOk P w K mg base CX (k + 1) f (PySem.W.fnOf name qual params body scope dV kV doc pm an cdv ct) ps sp := by
  refine ⟨len, fun A outer s H args us vs Q E hr e0 hb r hsp => ?_⟩
  have hl := len _ _ _ _ hsp
  have KX : K.In s.heap := e0.mod.kin.keeps fun b o e => (e0.bs b o e).1
  have lim : s.heap.NoLimit := e0.mod.nolimit.keeps fun b o e => (e0.bs b o e).1
  have hkind : ∀ y ∈ ps.zip us, scope.names.lookup y.1 = some .local ∨ (scope.names.lookup y.1 = some .cell ∧ ((cellsFrom (s.heap.objs.size + 1) scope.names []).lookup y.1).isSome = true) := fun ⟨n, v⟩ hy => by
    rcases S.par n (List.of_mem_zip hy).1 with q | q
    · exact .inl q
    · exact .inr ⟨q, PySem.W.cellsFrom_some _ _ _ (.inl q)⟩
  refine codeAny_call_function hr.depth (KX _ _ lk) rfl S.co S.gen rfl (PySem.W.codeRec_of KX hcd) (hb _ _ _ _ ?_)
  refine wpAny_newFunctionEnv_cells S.kind hkind fun env he s1 x => ?_
  subst he
  refine ⟨lim.keeps x.toInCall.keep, codeAny_func ?_⟩
  obtain ⟨t, ht, hq⟩ := hbody A outer s H vs Q E (hr.deeper _) hsp
  have I : Inv (cxOf CX P w K mg base N qual scope f cdv A outer s H E) [] (start N vs) H s1 := inv_start S hr.hd e0 hl r x
  refine wpAny_mono (ht [] s1 (start N vs) H _ I hq) (fun fl s' hs => ?_) fun e s' hs => hs
  have fin : ∀ {σ' : St} {H' : Hp} {v : V} {u : Value}, Inv (cxOf CX P w K mg base N qual scope f cdv A outer s H E) [] σ' H' s' → RelV v u → Q v H' → CE outer P w H s Q u s' :=
    fun {σ' H' v u} J rv q => ⟨v, H', J.os, J.bare, J.base, J.hok, rv, q⟩
  cases fl with
  | ret u =>
    obtain ⟨v, σ', H', J, rv, q⟩ := hs
    exact fin J rv q
  | next =>
    obtain ⟨σ', H', J, q⟩ := hs
    exact fin (v := V.non) (u := Value.none) J rfl q
  | brk =>
    obtain ⟨_, _, _, q⟩ := hs
    exact False.elim q
  | cont =>
    obtain ⟨_, _, _, q⟩ := hs
    exact False.elim q
end L2

namespace L2
open PySem PySem.Spec PyProof.Rows
section
variable {X : Cx} {x : Str} {p pos : Pos} {e : Expr} {es : List Expr} {t : TA} {id T : String} {r : List V → Hp → VK → Prop}

noncomputable def tCB (r : List V → Hp → VK → Prop) (t : TA) : TE := fun σ H Q => t σ H fun vs H1 => r vs H1 Q
/-- f(e, ..), f a built-in function -/
theorem pe_callB (hc : CallR X (.builtin id) r) (hg : Gl X x) (hm : X.mg x = none) (hv : bootBuiltins x = some (.builtin id)) (ha : PA X (e :: es) t) (hn : x ≠ "__name__" := by decide) (hdb : (x == ("__debug__" : Str)) = false := by decide)
    (he : starEach (e :: es) X.env = (false, eval e X.env) :: starEach es X.env := by rfl) (hpl : (backTo pos (starEach es X.env)).any (·.1) = false := by rfl) : PE X (.Call (.Name x p) (e :: es) [] pos) (tCB r t) := by
  intro pins s σ H Q I h
  refine wpAny_Call_Name_kw (ld_blt I hg hm hv ?_ hn hdb)
  exact PyProof.Rows.callWith_builtin1 (thn (ha pos pins s σ H _ I h) fun us s1 ⟨vs, H1, I1, r1, q1⟩ => hc pins s1 σ H1 vs us Q I1 r1 q1) he hpl
end
end L2

namespace HT
open PySem PyProof.Rows



section
open PySem.SeqAt
open PySem.AutoSeq1 (wpAny_loadPart')
open PySem.MeetsSeq PySem.MeetsSeq2 PySem.MeetsSeq3

end

section
variable {prog : Program} {w : World} {A : Around} {E : Value → Shared → Prop} {s : Shared}



/-! ### t[a:b], not the whole -/
/-- a slice's bound as a place among n (d where it is left out) -/
noncomputable def sIx (n d : Nat) : Option Int → Nat
  | none => d
  | some v => if v < 0 then (v + (n : Int)).toNat else min v.toNat n
theorem sIx_nat (n d k : Nat) : sIx n d (some (k : Int)) = min k n := by
  show (if (k : Int) < 0 then ((k : Int) + (n : Int)).toNat else min (k : Int).toNat n) = min k n
  rw [if_neg (by omega), Int.toNat_natCast]

end
end HT

namespace L2
open PySem PySem.Spec PyProof.Rows

/-! ### the parts of a slice -/
noncomputable abbrev TO := St → Hp → (Option Int → Hp → Prop) → Prop
/-- a slice's part (left out, or an int) -/
noncomputable def PO (X : Cx) (e : Option Expr) (t : TO) : Prop :=
  ∀ (pins : List (Addr × Obj)) (s : Shared) (σ : St) (H : Hp) (Q : Option Int → Hp → Prop), Inv X pins σ H s → t σ H Q →
    wpAny (model X.prog X.w) X.A (evalPart e X.env) (fun u s' => ∃ o H', Inv X pins σ H' s' ∧ IsPart u o ∧ Q o H') X.xe s
noncomputable def tNoPart : TO := fun _ H Q => Q none H
noncomputable def tPart (t : TE) : TO := fun σ H Q => t σ H fun x H1 => ∃ i, x = .int i ∧ Q (some i) H1


section
variable {X : Cx} {e : Expr} {te : TE} {lo hi : Option Expr} {tl th : TO} {pos p2 : Pos}

theorem po_none : PO X none tNoPart := by
  intro pins s σ H Q I h
  rw [evalPart_none]
  exact wpAny_pure ⟨none, H, I, .none, h⟩
theorem po_some (h : PE X e te) : PO X (some e) (tPart te) := by
  intro pins s σ H Q I hw
  rw [evalPart_some]
  refine thn (h pins s σ H _ I hw) fun u s1 ⟨x, H1, I1, r1, q1⟩ => ?_
  obtain ⟨i, rfl, q⟩ := q1
  obtain ⟨t, rfl⟩ := r1
  exact ⟨some i, H1, I1, .int i t, q⟩

/-- what a slice of a value is, by values: the slice object stands at sl -/
noncomputable def SlR (X : Cx) (r : V → Option Int → Option Int → Hp → VK → Prop) : Prop :=
  ∀ (pins : List (Addr × Obj)) (s : Shared) (σ : St) (H : Hp) (x : V) (v vl vu : Value) (lo hi : Option Int) (sl : Addr) (Q : VK), Inv X pins σ H s → RelV x v → s.heap.IsSliceOf sl vl vu .none → IsPart vl lo → IsPart vu hi → r x lo hi H Q →
    ∃ T id, typeLookup (.type T) "__getitem__" = pure (some (.builtin id)) ∧ s.TypeIs v T ∧ wpAny (model X.prog X.w) X.A (getItem v (.ref sl)) (EP X pins σ Q) X.xe s
noncomputable def tSl (r : V → Option Int → Option Int → Hp → VK → Prop) (te : TE) (tl th : TO) : TE := fun σ H Q => te σ H fun x H1 => tl σ H1 fun l H2 => th σ H2 fun u H3 => r x l u H3 Q
/-- a[lo:hi], any a -/
theorem pe_slice {r : V → Option Int → Option Int → Hp → VK → Prop} (hr : SlR X r) (he : PE X e te) (hl : PO X lo tl) (hu : PO X hi th) : PE X (.Subscript e (.Slice lo hi none p2) pos) (tSl r te tl th) := by
  intro pins s σ H Q I h
  refine Subscript_ (thn (he pins s σ H _ I h) fun v s1 ⟨x, H1, I1, r1, q1⟩ => ?_)
  refine wpAny_Slice (thn (hl pins s1 σ H1 _ I1 q1) fun vl s2 ⟨l, H2, I2, pl, q2⟩ => thn (hu pins s2 σ H2 _ I2 q2) fun vu s3 ⟨u, H3, I3, pu, q3⟩ => ?_)
  rw [evalPart_none]
  refine wpAny_pure ?_
  have I4 : Inv X pins σ H3 { s3 with heap := s3.heap.push { cls := .type "slice", data := .fields #[vl, vu, .none] } } := I3.kept (t' := s3.toks) fun b ob q => Heap.get?_push_of_some _ q
  obtain ⟨T, id, hT, ht, hg⟩ := hr pins { s3 with heap := s3.heap.push { cls := .type "slice", data := .fields #[vl, vu, .none] } } σ H3 x v vl vu l u s3.heap.objs.size Q I4 r1 (Heap.IsSliceOf.new ..) pl pu q3
  show wpAny (model X.prog X.w) X.A (subscriptTail e (.Slice lo hi none p2) v (.ref s3.heap.objs.size)) (EP X pins σ Q) X.xe { s3 with heap := s3.heap.push { cls := .type "slice", data := .fields #[vl, vu, .none] } }
  exact tail_any (ops := [.ref s3.heap.objs.size, v]) ht hT hg (by with_unfolding_all rfl)

/-- the items of xs[lo:hi] -/
noncomputable def cutV (xs : List V) (lo hi : Option Int) : List V := (xs.drop (HT.sIx xs.length 0 lo)).take (HT.sIx xs.length xs.length hi - HT.sIx xs.length 0 lo)
theorem cutV_length (xs : List V) (lo hi : Option Int) : (cutV xs lo hi).length ≤ xs.length := by
  unfold cutV
  rw [List.length_take, List.length_drop]
  omega

/-! ### t < u, t + u -/
end
end L2

namespace L2
open PySem PySem.Spec PyProof.Rows

/-! ### places -/
/-- the place that an index of any sign means -/
noncomputable def ixN (n : Nat) (i : Int) : Option Nat := if 0 ≤ i then (if i < n then some i.toNat else none) else if -(n : Int) ≤ i then some (i + n).toNat else none
noncomputable def atI {α : Type} (xs : List α) (i : Int) : Option α := (ixN xs.length i).bind fun j => xs[j]?
theorem ixN_seq {n : Nat} {i : Int} {j : Nat} (h : ixN n i = some j) : seqIndex? i n = some j ∧ j < n ∧ -(n : Int) ≤ i ∧ i < n := by
  unfold ixN at h
  by_cases h0 : 0 ≤ i
  · rw [if_pos h0] at h
    by_cases h1 : i < n
    · rw [if_pos h1] at h
      have e : i.toNat = j := Option.some.inj h
      exact ⟨by rw [seqIndex_of h0 h1, e], by omega, by omega, h1⟩
    · rw [if_neg h1] at h; cases h
  · rw [if_neg h0] at h
    by_cases h1 : -(n : Int) ≤ i
    · rw [if_pos h1] at h
      have e : (i + n).toNat = j := Option.some.inj h
      exact ⟨by rw [seqIndex_neg (by omega) h1, e], by omega, h1, by omega⟩
    · rw [if_neg h1] at h; cases h
theorem atI_get {α : Type} {xs : List α} {i : Int} {v : α} (h : atI xs i = some v) : ∃ j, seqIndex? i xs.length = some j ∧ xs[j]? = some v ∧ j < xs.length ∧ -(xs.length : Int) ≤ i ∧ i < xs.length := by
  unfold atI at h
  cases e : ixN xs.length i with
  | none => rw [e] at h; cases h
  | some j =>
    rw [e] at h
    obtain ⟨h1, h2, h3, h4⟩ := ixN_seq e
    exact ⟨j, h1, h, h2, h3, h4⟩
theorem atI_nat {α : Type} {xs : List α} {j : Nat} {v : α} (h : xs[j]? = some v) : atI xs (j : Int) = some v := by
  have hj : j < xs.length := (List.getElem?_eq_some_iff.mp h).1
  have e : ixN xs.length (j : Int) = some j := by
    unfold ixN
    rw [if_pos (by omega), if_pos (by omega)]; simp
  unfold atI; rw [e]; exact h
theorem atI_last {α : Type} (xs : List α) (v : α) : atI (xs ++ [v]) (-1) = some v := by
  have hl : (xs ++ [v]).length = xs.length + 1 := by simp
  have e : ixN (xs ++ [v]).length (-1) = some xs.length := by
    unfold ixN
    rw [hl, if_neg (by decide), if_pos (by omega)]
    congr 1
    omega
  unfold atI
  rw [e]
  show (xs ++ [v])[xs.length]? = some v
  simp

/-! ### what may be subscripted -/
/-- what stands as an index of a plain subscript -/
noncomputable def PlainIx (b : Expr) : Prop := ∀ o i, subscripted b false o i = operate [o, i] (getItem o i)
/-- a subscript by values -/
noncomputable def IxR (X : Cx) (r : R2) : Prop :=
  ∀ (value slice : Expr) (pins : List (Addr × Obj)) (s : Shared) (σ : St) (H : Hp) (x y : V) (v u : Value) (Q : VK), Inv X pins σ H s → RelV x v → RelV y u → r x y H Q →
    subscripted slice false v u = operate [v, u] (getItem v u) → wpAny (model X.prog X.w) X.A (subscriptTail value slice v u) (EP X pins σ Q) X.xe s
/-- a call of a builtin's method by values: the receiver, the arguments -/
noncomputable def MtR (X : Cx) (id : String) (r : V → List V → Hp → VK → Prop) : Prop :=
  ∀ (pins : List (Addr × Obj)) (s : Shared) (σ : St) (H : Hp) (x : V) (xs : List V) (v : Value) (us : List Value) (Q : VK), Inv X pins σ H s → RelV x v → Vals xs us → r x xs H Q →
    wpAny (model X.prog X.w) X.A (call (.builtin id) (v :: us)) (EP X pins σ Q) X.xe s
section
variable {X : Cx} {a b : Expr} {ta tb : TE} {pos : Pos}
/-- a[b] -/
theorem pe_ix {r : R2} (hr : IxR X r) (ha : PE X a ta) (hb : PE X b tb) (hs : PlainIx b) : PE X (.Subscript a b pos) (tOp r ta tb) := by
  intro pins s σ H Q I h
  exact Subscript_ (binT ha hb I h fun v u s2 x y H2 I2 rx ry q => hr a b pins s2 σ H2 x y v u Q I2 rx ry q (hs _ _))

noncomputable def rIxL (K : PySem.W.Frag) : R2 := fun x y H Q => ∃ p xs i v, x = .ref p ∧ y = .int i ∧ SqL K H p xs ∧ atI xs i = some v ∧ Q v H
noncomputable def rIxT (K : PySem.W.Frag) : R2 := fun x y H Q => ∃ p xs i v, x = .ref p ∧ y = .int i ∧ SqT K H p xs ∧ atI xs i = some v ∧ Q v H
theorem ix_list : IxR X (rIxL X.K) := by
  intro value slice pins s σ H x y v u Q I rx ry h hs
  obtain ⟨p, xs, i, z, rfl, rfl, hq, he, q⟩ := h
  cases rx
  obtain ⟨t, rfl⟩ := ry
  obtain ⟨its, r, pl, hz⟩ := I.list hq
  obtain ⟨j, h1, h2, h3, h4, h5⟩ := atI_get he
  obtain ⟨w, ew, rw'⟩ := r.get h2
  have hl := r.length
  have hn := line63
  have fin : EP X pins σ Q w s := ⟨z, H, I, rw', q⟩
  by_cases h0 : 0 ≤ i
  · have hj : i.toNat = j := by
      rw [seqIndex_of h0 h5] at h1
      exact Option.some.inj h1
    exact item_listR pl.isList h0 (by omega) (by rw [hj]; simpa using ew) fin hs
  · have hj : (i + (its.toArray.size : Int)).toNat = j := by
      rw [seqIndex_neg (by omega) h4] at h1
      rw [List.size_toArray, ← hl]
      exact Option.some.inj h1
    exact subscriptTail_builtinR (x := w) pl.isList.typeIs slot_list_getitem.lookup
      (wpAny_getItem_list_neg (Q := fun r s' => r = w ∧ EP X pins σ Q r s') pl.isList (by omega) (by rw [List.size_toArray] <;> omega) (by omega) (by rw [hj]; simpa using ew) ⟨rfl, fin⟩) hs
theorem ix_tup : IxR X (rIxT X.K) := by
  intro value slice pins s σ H x y v u Q I rx ry h hs
  obtain ⟨p, xs, i, z, rfl, rfl, hq, he, q⟩ := h
  cases rx
  obtain ⟨t, rfl⟩ := ry
  obtain ⟨its, r, pl, hz⟩ := I.tuple hq
  obtain ⟨j, h1, h2, h3, h4, h5⟩ := atI_get he
  obtain ⟨w, ew, rw'⟩ := r.get h2
  have hl := r.length
  have hn := line63
  have fin : EP X pins σ Q w s := ⟨z, H, I, rw', q⟩
  exact subscriptTail_builtinR (x := w) pl.typeIs slot_tuple_getitem.lookup
    (getItem_tuple (j := j) (Q := fun r s' => r = w ∧ EP X pins σ Q r s') pl (by omega) (by omega) (by rw [List.size_toArray, ← hl]; exact h1) (by simpa using ew) ⟨rfl, fin⟩) hs

/-! ### xs[i] = v, any sign -/
/-- the list's object behind a store -/
theorem mapSeq_set (its : List Value) (n j : Nat) (u : Value) : Obj.mapSeq (·.setIfInBounds j u) { cls := .type "list", data := .seq its.toArray n } = { cls := .type "list", data := .seq (its.set j u).toArray n } := by
  simp [Obj.mapSeq]
theorem Inv.lst {pins : List (Addr × Obj)} {σ : St} {H : Hp} {s : Shared} {p : Addr} {xs : List V} (I : Inv X pins σ H s) (h : H p = some (.lst xs)) :
    ∃ (its : List Value) (n : Nat), Vals xs its ∧ s.heap.get? p = some { cls := .type "list", data := .seq its.toArray n } ∧ xs.length ≤ sizeLine := by
  obtain ⟨z, its, n, r, e⟩ := I.hok p _ h
  exact ⟨its, n, r, e, z⟩
/-- the list at p is written by an update of its object -/
theorem Inv.lstUpd {pins : List (Addr × Obj)} {σ : St} {H : Hp} {s : Shared} {p : Addr} {xs ys : List V} {its its' : List Value} {n n' : Nat} {f : Obj → Obj} (I : Inv X pins σ H s) (h : H p = some (.lst xs))
    (ho : s.heap.get? p = some { cls := .type "list", data := .seq its.toArray n }) (hf : f { cls := .type "list", data := .seq its.toArray n } = { cls := .type "list", data := .seq its'.toArray n' }) (r : Vals ys its') (hz : ys.length ≤ sizeLine) (t : Nat) :
    Inv X pins σ (upd H p (.lst ys)) { s with heap := s.heap.update p f, toks := t } := by
  have e : (s.heap.update p f).get? p = some { cls := .type "list", data := .seq its'.toArray n' } := by
    rw [Heap.get?_update_self f ho (by rw [hf] <;> rfl), hf]
  refine I.write (x := p) (e := p) (by rw [h]; trivial) (.inl rfl) (fun b u hb q => (Heap.get?_update_other _ _ (Ne.symm hb)).trans q) ⟨_, e⟩ ?_
  exact ⟨hz, its', n', r, e⟩
noncomputable def rSetL : V → V → V → Hp → (Hp → Prop) → Prop := fun o i v H Q => ∃ p xs k j, o = .ref p ∧ i = .int k ∧ H p = some (.lst xs) ∧ ixN xs.length k = some j ∧ Q (upd H p (.lst (xs.set j v)))
theorem set_list : PSet X rSetL := by
  intro pins s σ H o i v ov iv u Q I ro ri rv h
  obtain ⟨p, xs, k, j, rfl, rfl, hp, hj, q⟩ := h
  cases ro
  obtain ⟨t, rfl⟩ := ri
  obtain ⟨its, n, r, ho, hz⟩ := I.lst hp
  obtain ⟨h1, h2, h3, h4⟩ := ixN_seq hj
  have hl := r.length
  have hn := line63
  have I' : Inv X pins σ (upd H p (.lst (xs.set j v))) { s with heap := s.heap.update p (Obj.mapSeq (·.setIfInBounds j u)) } :=
    I.lstUpd hp ho (mapSeq_set its n j u) (r.set rv j) (by rw [List.length_set]; exact hz) s.toks
  by_cases h0 : 0 ≤ k
  · have hk : k.toNat = j := by
      rw [seqIndex_of h0 h4] at h1
      exact Option.some.inj h1
    exact PySem.W.ki_setAt ho h0 (by omega) (by rw [List.size_toArray, ← hl]; exact h4) (by rw [hk]; exact ⟨_, I', q⟩)
  · have hk : (k + (its.toArray.size : Int)).toNat = j := by
      rw [seqIndex_neg (by omega) h3] at h1
      rw [List.size_toArray, ← hl]
      exact Option.some.inj h1
    exact PySem.W.ki_setBack ho (by omega) (by rw [List.size_toArray, ← hl]; exact h3) (by omega) (by rw [hk]; exact ⟨_, I', q⟩)

/-! ### slices -/
theorem slice_bounds (lo hi : Option Int) (n : Nat) : (sliceBounds lo hi none n).1 = ((HT.sIx n 0 lo : Nat) : Int) ∧ (sliceBounds lo hi none n).2.1 = ((HT.sIx n n hi : Nat) : Int) ∧ (sliceBounds lo hi none n).2.2 = 1 := by
  refine ⟨?_, ?_, rfl⟩
  · cases lo with
    | none => simp [sliceBounds, HT.sIx]
    | some i =>
      simp only [sliceBounds, HT.sIx, Option.getD_none, show (1 : Int) > 0 by decide, if_true]
      by_cases h : i < 0
      · simp only [h, if_true] <;> omega
      · simp only [h, if_false] <;> omega
  · cases hi with
    | none => simp [sliceBounds, HT.sIx]
    | some i =>
      simp only [sliceBounds, HT.sIx, Option.getD_none, show (1 : Int) > 0 by decide, if_true]
      by_cases h : i < 0
      · simp only [h, if_true] <;> omega
      · simp only [h, if_false] <;> omega
theorem slicePick_cut (its : List Value) (lo hi : Option Int) : slicePick its.toArray lo hi none = ((its.drop (HT.sIx its.length 0 lo)).take (HT.sIx its.length its.length hi - HT.sIx its.length 0 lo)).toArray := by
  obtain ⟨h1, h2, h3⟩ := slice_bounds lo hi its.toArray.size
  unfold slicePick
  rw [h1, h2, h3]
  simp only [sliceRange_one, pick_run, List.size_toArray] <;> rfl
/-- xs[lo:hi] of a list: a new list -/
noncomputable def rSlL (K : PySem.W.Frag) : V → Option Int → Option Int → Hp → VK → Prop := fun x lo hi H Q => ∃ a xs, x = .ref a ∧ SqL K H a xs ∧ ∀ p, H p = none → Q (.ref p) (upd H p (.lst (cutV xs lo hi)))
theorem sl_list : SlR X (rSlL X.K) := by
  intro pins s σ H x v vl vu lo hi sl Q I rx hs pl pu h
  obtain ⟨a, xs, rfl, hx, q⟩ := h
  cases rx
  obtain ⟨its, r, ht, hz⟩ := I.list hx
  have hlen := r.length
  refine ⟨"list", _, slot_list_getitem.lookup, ht.isList.typeIs, ?_⟩
  refine wpAny_getItem_list_slice ht.isList hs pl pu .none (by simp) ?_ (by rw [List.size_toArray] <;> omega)
  rw [slicePick_cut, ← hlen]
  refine ⟨.ref s.heap.objs.size, _, I.laid (t' := s.toks) (o := .lst (cutV xs lo hi)) (fun b ob q => Heap.get?_push_of_some _ q) (Nat.le_refl _) ?_, rfl, q _ (I.hok.fresh (Nat.le_refl _))⟩
  exact ⟨Nat.le_trans (cutV_length xs lo hi) hz, _, 0, (r.drop (HT.sIx xs.length 0 lo)).take (HT.sIx xs.length xs.length hi - HT.sIx xs.length 0 lo), Heap.get?_push_size _ rfl⟩

/-! ### in, not in: flat items -/
noncomputable def flatV : V → Bool
  | .non => true
  | .bl _ => true
  | .int _ => true
  | .str _ => true
  | _ => false
/-- == of flat values -/
noncomputable def eqV : V → V → Bool
  | .non, .non => true
  | .bl a, .bl b => a == b
  | .bl a, .int b => (if a then 1 else 0) == b
  | .int a, .bl b => a == (if b then 1 else 0)
  | .int a, .int b => a == b
  | .str a, .str b => a == b
  | _, _ => false
theorem eqAt_V {A : Around} {s : Shared} {y x : V} {u v : Value} (ry : RelV y u) (rx : RelV x v) (fy : flatV y = true) (fx : flatV x = true) : SeqAt.EqAt A s u v (eqV y x) := by
  cases y with
  | non =>
    cases ry
    cases x with
    | non => cases rx; exact SeqAt.EqAt.same _
    | bl b => cases rx; exact SeqAt.EqAt.none_bool b
    | int b => obtain ⟨t, rfl⟩ := rx; exact SeqAt.EqAt.none_int b t
    | str b => obtain ⟨t, rfl⟩ := rx; exact SeqAt.EqAt.none_str b t
    | _ => exact absurd (show false = true from fx) Bool.false_ne_true
  | bl a =>
    cases ry
    cases x with
    | non => cases rx; exact SeqAt.EqAt.bool_none a
    | bl b => cases rx; exact SeqAt.EqAt.bool_bool a b
    | int b => obtain ⟨t, rfl⟩ := rx; exact SeqAt.EqAt.bool_int a b t
    | str b => obtain ⟨t, rfl⟩ := rx; exact SeqAt.EqAt.bool_str a b t
    | _ => exact absurd (show false = true from fx) Bool.false_ne_true
  | int a =>
    obtain ⟨t', rfl⟩ := ry
    cases x with
    | non => cases rx; exact SeqAt.EqAt.int_none a t'
    | bl b => cases rx; exact SeqAt.EqAt.int_bool a t' b
    | int b => obtain ⟨t, rfl⟩ := rx; exact SeqAt.EqAt.int_int a t' b t
    | str b => obtain ⟨t, rfl⟩ := rx; exact SeqAt.EqAt.int_str a t' b t
    | _ => exact absurd (show false = true from fx) Bool.false_ne_true
  | str a =>
    obtain ⟨t', rfl⟩ := ry
    cases x with
    | non => cases rx; exact SeqAt.EqAt.str_none a t'
    | bl b => cases rx; exact SeqAt.EqAt.str_bool a t' b
    | int b => obtain ⟨t, rfl⟩ := rx; exact SeqAt.EqAt.str_int a t' b t
    | str b => obtain ⟨t, rfl⟩ := rx; exact SeqAt.EqAt.str_str a t' b t
    | _ => exact absurd (show false = true from fx) Bool.false_ne_true
  | _ => exact absurd (show false = true from fy) Bool.false_ne_true
/-- the items' answers, read off the values (a value's own answer does not lean on its token) -/
noncomputable def eqU (x : V) (u : Value) : Bool := match u with
  | .none => eqV .non x
  | .bool b => eqV (.bl b) x
  | .int i _ => eqV (.int i) x
  | .str z _ => eqV (.str z) x
  | _ => false
theorem eqU_of {x y : V} {u : Value} (r : RelV y u) (f : flatV y = true) : eqU x u = eqV y x := by
  cases y with
  | non => cases r; rfl
  | bl b => cases r; rfl
  | int i => obtain ⟨t, rfl⟩ := r; rfl
  | str z => obtain ⟨t, rfl⟩ := r; rfl
  | _ => exact absurd (show false = true from f) Bool.false_ne_true
theorem any_eqU {x : V} : ∀ {xs : List V} {us : List Value}, Vals xs us → xs.all flatV = true → us.any (eqU x) = xs.any fun y => eqV y x
  | _, _, .nil, _ => rfl
  | y :: xs, u :: us, .cons r t, f => by
    rw [List.all_cons, Bool.and_eq_true] at f
    rw [List.any_cons, List.any_cons, eqU_of r f.1, any_eqU t f.2]
theorem mem_eqAt {A : Around} {s : Shared} {x : V} {v : Value} (rx : RelV x v) (fx : flatV x = true) : ∀ {xs : List V} {us : List Value}, Vals xs us → xs.all flatV = true → ∀ u ∈ us, SeqAt.EqAt A s u v (eqU x u)
  | _, _, .nil, _ => fun u hu => by cases hu
  | y :: xs, u :: us, .cons r t, f => fun u' hu => by
    rw [List.all_cons, Bool.and_eq_true] at f
    rcases List.mem_cons.mp hu with rfl | hu
    · rw [eqU_of r f.1]; exact eqAt_V r rx f.1 fx
    · exact mem_eqAt rx fx t f.2 u' hu
noncomputable def inV (x : V) (xs : List V) : Bool := xs.any fun y => eqV y x
/-- x in a list or tuple of flat items -/
noncomputable def rIn (K : PySem.W.Frag) (neg : Bool) : R2 := fun x y H Q => ∃ p xs, y = .ref p ∧ (SqL K H p xs ∨ SqT K H p xs) ∧ flatV x = true ∧ xs.all flatV = true ∧ Q (.bl (if neg then !inV x xs else inV x xs)) H
theorem op_notIn_seq : OpR X (compareOp .NotIn) (rIn X.K true) := by
  intro pins s σ H x y v u Q I rx ry h
  obtain ⟨p, xs, rfl, hq, fx, fs, q⟩ := h
  cases ry
  rcases hq with hq | hq
  · obtain ⟨its, r, pl, hz⟩ := I.list hq
    refine SeqAt.notIn_listAt (eqU x) pl.isList (fun w hw => mem_eqAt rx fx r fs w (by simpa using hw)) ⟨.bl _, H, I, rfl, ?_⟩
    rw [show its.toArray.any (eqU x) = its.any (eqU x) by simp, any_eqU r fs]
    exact q
  · obtain ⟨its, r, pl, hz⟩ := I.tuple hq
    refine SeqAt.notIn_tupleAt (eqU x) pl (fun w hw => mem_eqAt rx fx r fs w (by simpa using hw)) ⟨.bl _, H, I, rfl, ?_⟩
    rw [show its.toArray.any (eqU x) = its.any (eqU x) by simp, any_eqU r fs]
    exact q

/-! ### len, list(x), tuple(x) of any list or tuple that is read -/
theorem call_len_seq : CallR X (.builtin "len") (fun xs H Q => ∃ p ys, xs = [.ref p] ∧ (SqL X.K H p ys ∨ SqT X.K H p ys) ∧ Q (.int ys.length) H) := by
  intro pins s σ H xs us Q I r h
  obtain ⟨p, ys, rfl, hq, q⟩ := h
  obtain ⟨u, rfl, rx⟩ := vals1 r
  cases rx
  have hn := line63
  rcases hq with hq | hq
  · obtain ⟨its, r', pl, hz⟩ := I.list hq
    have hlen := r'.length
    exact Calls.call_len_list pl.isList (by simp only [List.size_toArray] <;> omega) ⟨.int ys.length, H, I.tok _, ⟨s.toks + 1, by rw [List.size_toArray, hlen]⟩, q⟩
  · obtain ⟨its, r', pl, hz⟩ := I.tuple hq
    have hlen := r'.length
    exact len_tuple pl (by simp only [List.size_toArray] <;> omega) ⟨.int ys.length, H, I.tok _, ⟨s.toks + 1, by rw [List.size_toArray, hlen]⟩, q⟩

/-! ### the call of a builtin's method: o.m(..) -/
/-- the value is of that builtin type -/
noncomputable def tyV (K : PySem.W.Frag) (T : String) (x : V) (H : Hp) : Prop := match x with
  | .str _ => T = "str"
  | .int _ => T = "int"
  | .ref p => (T = "list" ∧ ∃ xs, SqL K H p xs) ∨ (T = "tuple" ∧ ∃ o, K.lookup p = some o ∧ o.cls = .type "tuple" ∧ o.dict = none) ∨
      (T = "dict" ∧ ((∃ kvs, H p = some (.dK kvs)) ∨ ∃ kvs, H p = some (.dT kvs))) ∨ (T = "set" ∧ ∃ S n, H p = some (.set S n))
  | _ => False
theorem tyV_is {pins : List (Addr × Obj)} {σ : St} {H : Hp} {s : Shared} {T : String} {x : V} {v : Value} (I : Inv X pins σ H s) (r : RelV x v) (ty : tyV X.K T x H) :
    s.TypeIs v T ∧ ∀ a, v = .ref a → ∃ ob, s.heap.get? a = some ob ∧ ob.dict = none := by
  cases x with
  | str z =>
    obtain ⟨t, rfl⟩ := r
    cases (show T = "str" from ty)
    exact ⟨typeIs_str s z t, fun _ e => nomatch e⟩
  | int i =>
    obtain ⟨t, rfl⟩ := r
    cases (show T = "int" from ty)
    exact ⟨typeIs_int s i t, fun _ e => nomatch e⟩
  | ref p =>
    cases r
    rcases ty with ⟨rfl, xs, hq⟩ | ⟨rfl, o, hk, hc, hd⟩ | ⟨rfl, hk⟩ | ⟨rfl, S, n, hk⟩
    · obtain ⟨its, _, pl, _⟩ := I.list hq
      refine ⟨pl.isList.typeIs, fun a e => ?_⟩
      cases e
      obtain ⟨o, n, e, c, hd, _⟩ := pl
      exact ⟨o, e, hd⟩
    · refine ⟨⟨o, I.kIn p o hk, hc⟩, fun a e => ?_⟩
      cases e
      exact ⟨o, I.kIn _ o hk, hd⟩
    · have z : ∃ o, s.heap.get? p = some o ∧ o.ExactDict := by
        rcases hk with ⟨kvs, hk⟩ | ⟨kvs, hk⟩
        · obtain ⟨_, _, _, _, o, _, _, e, ex, _⟩ := I.hok p _ hk
          exact ⟨o, e, ex⟩
        · obtain ⟨_, _, _, _, o, _, _, e, ex, _⟩ := I.hok p _ hk
          exact ⟨o, e, ex⟩
      obtain ⟨o, e, ex⟩ := z
      refine ⟨⟨o, e, ex.1⟩, fun a e2 => ?_⟩
      cases e2
      exact ⟨o, e, ex.2.1⟩
    · obtain ⟨o, _, _, _, e, ex, _⟩ := I.hok p _ hk
      refine ⟨⟨o, e, ex.1⟩, fun a e2 => ?_⟩
      cases e2
      exact ⟨o, e, ex.2.1⟩
  | _ => exact False.elim ty
noncomputable def tBM (K : PySem.W.Frag) (T : String) (r : V → List V → Hp → VK → Prop) (to : TE) (t : TA) : TE := fun σ H Q => to σ H fun x H1 => tyV K T x H1 ∧ t σ H1 fun xs H2 => r x xs H2 Q
variable {o e : Expr} {es : List Expr} {to : TE} {t : TA} {name : Str} {apos cpos : Pos} {T id : String} {r : V → List V → Hp → VK → Prop}
theorem pe_bm (pa : PlainAttrs T) (slot : Slot T name id) (hty : typeOf (.builtin id) = pure (.type "method_descriptor")) (hm : MtR X id r) (ho : PE X o to) (ha : PA X (e :: es) t)
    (hbase : attributeBase o name X.env (eval o X.env) = eval o X.env := by rfl)
    (hfew : ((backTo cpos (starEach (e :: es) X.env)).all (fun x => !x.1) && (backToKw cpos (keywordEach [] X.env)).all (fun x => x.1.isSome)
      && decide ((e :: es).length + ([] : List Keyword).length + (if ([] : List Keyword).isEmpty then 0 else 1) < 30)) = true := by rfl)
    (hline : (apos.endLine == cpos.line) = true := by rfl) (hs : starEach (e :: es) X.env = (false, eval e X.env) :: starEach es X.env := by rfl) (hplain : (backTo cpos (starEach es X.env)).any (·.1) = false := by rfl) :
    PE X (.Call (.Attribute o name apos) (e :: es) [] cpos) (tBM X.K T r to t) := by
  intro pins s σ H Q I h
  refine wpAny_Call_method_late hbase hfew hline rfl (thn (ho pins s σ H _ I h) fun v s1 ⟨x, H1, I1, r1, ty, q1⟩ => ?_)
  obtain ⟨h1, h2⟩ := tyV_is I1 r1 ty
  refine ⟨T, id, pa, slot, hty, h1, h2, ?_⟩
  have hA := ha cpos pins s1 σ H1 _ I1 q1
  rw [hs] at hA ⊢
  refine Calls.callWith_builtin (by show (false || (backTo cpos (starEach es X.env)).any (·.1)) = false; rw [hplain] <;> rfl) (Calls.evalArgs_plain ?_)
  exact thn hA fun us s2 ⟨vs, H2, I2, r2, q2⟩ => hm pins s2 σ H2 x vs v us Q I2 r1 r2 q2
/- xs.append(e), list.index on a module's tuple .. are MtR facts of 06m -/
end
end L2

namespace L2
open PySem PySem.Spec PyProof.Rows

noncomputable def MtM (X : Cx) (id : String) (r : V → List V → Hp → VK → Prop) : Prop :=
  ∀ (pins : List (Addr × Obj)) (s : Shared) (σ : St) (H : Hp) (x : V) (xs : List V) (v : Value) (us : List Value) (Q : VK), Inv X pins σ H s → RelV x v → Vals xs us → r x xs H Q →
    wpAny (model X.prog X.w) X.A (call (.builtin id) (v :: us)) (EP X pins σ Q) X.xe s

/-! ### lists of values -/
theorem Vals.one : ∀ {x : V} {us : List Value}, Vals [x] us → ∃ u, us = [u] ∧ RelV x u
  | _, _, .cons r .nil => ⟨_, rfl, r⟩

section
variable {X : Cx} {pins : List (Addr × Obj)} {σ : St} {H : Hp} {s : Shared} {l b : Addr} {xs ys zs : List V}

/-! ### the two steps: a tracked list is rewritten, a new list is laid -/
theorem Inv.lset {its its' : List Value} {n : Nat} {f : Array Value → Array Value} {t' : Nat} (I : Inv X pins σ H s) (hH : H l = some (.lst xs))
    (e : s.heap.get? l = some { cls := .type "list", data := .seq its.toArray n }) (hf : f its.toArray = its'.toArray) (hv : Vals ys its') (hz : ys.length ≤ sizeLine) :
    Inv X pins σ (upd H l (.lst ys)) { s with heap := s.heap.update l (Obj.mapSeq f), toks := t' } := by
  have q := PySem.IsL.update e f
  rw [hf] at q
  refine I.write (x := l) (e := l) (by rw [hH]; exact trivial) (.inl rfl) (fun b' u hb hu => (Heap.get?_update_other s.heap (Obj.mapSeq f) (Ne.symm hb)).trans hu) ⟨_, q⟩ ?_
  exact ⟨hz, its', _, hv, q⟩
theorem Inv.lstM (I : Inv X pins σ H s) (hH : H l = some (.lst xs)) : xs.length ≤ sizeLine ∧ ∃ (its : List Value) (n : Nat), Vals xs its ∧ xs.length = its.length ∧ s.heap.get? l = some { cls := .type "list", data := .seq its.toArray n } := by
  obtain ⟨z, its, n, r, e⟩ := I.hok l _ hH
  exact ⟨z, its, n, r, r.length, e⟩

theorem notLongL {n : Nat} (h : n ≤ sizeLine) : Builtin.List.listTooLong n = false := by
  unfold Builtin.List.listTooLong
  exact decide_eq_false (by omega)
end

section
variable {X : Cx}

/-! ### methods -/
noncomputable def rAppend : V → List V → Hp → VK → Prop := fun x vs H Q => ∃ l xs y, x = .ref l ∧ vs = [y] ∧ H l = some (.lst xs) ∧ xs.length < sizeLine ∧ Q .non (upd H l (.lst (xs ++ [y])))
theorem mt_append : MtM X "list.append" rAppend := by
  intro pins s σ H x vs v us Q I rx rv h
  obtain ⟨l, xs, y, rfl, rfl, hH, hz, q⟩ := h
  cases rx
  obtain ⟨u, rfl, ru⟩ := rv.one
  obtain ⟨z, its, n, r, hl, e⟩ := I.lstM hH
  refine call_meets F.slot_list_append ⟨_, e, rfl⟩ F.entry_list_append (F.args_list_append_2 _ _) (PySem.list_append l its.toArray n u (by rw [List.size_toArray]; omega)) ⟨e, ?_⟩
  refine ⟨.non, _, I.lset (its' := its ++ [u]) hH e (by simp) (r.append (.cons ru .nil)) ?_, rfl, q⟩
  rw [List.length_append, List.length_singleton]
  omega

noncomputable def rExtend : V → List V → Hp → VK → Prop := fun x vs H Q => ∃ l b xs zs, x = .ref l ∧ vs = [.ref b] ∧ H l = some (.lst xs) ∧ H b = some (.lst zs) ∧ xs.length + zs.length ≤ sizeLine ∧ Q .non (upd H l (.lst (xs ++ zs)))
theorem mt_extend : MtM X "list.extend" rExtend := by
  intro pins s σ H x vs v us Q I rx rv h
  obtain ⟨l, b, xs, zs, rfl, rfl, hH, hB, hz, q⟩ := h
  cases rx
  obtain ⟨u, rfl, ru⟩ := rv.one
  cases ru
  obtain ⟨z, its, n, r, hl, e⟩ := I.lstM hH
  obtain ⟨z2, its2, n2, r2, hl2, e2⟩ := I.lstM hB
  have hsz : its.toArray.size + its2.toArray.size ≤ sizeLine := by rw [List.size_toArray, List.size_toArray]; omega
  have hlong : ¬ (!its.toArray.isEmpty && Builtin.List.listTooLong (its.toArray.size + its2.toArray.size)) = true := by
    rw [notLongL hsz, Bool.and_false]
    exact Bool.false_ne_true
  refine call_meets F.slot_list_extend ⟨_, e, rfl⟩ F.entry_list_extend (F.args_list_extend_2 _ _)
    (AutoSeq1.list_extend_list_list_0 l its.toArray n b its2.toArray n2 hlong (by rw [List.size_toArray]; omega) (by omega)) ⟨e, e2, ?_⟩
  refine ⟨.non, _, I.lset (its' := its ++ its2) hH e (by simp) (r.append r2) ?_, rfl, q⟩
  rw [List.length_append]
  omega





/-! ### list + list, list += list, list * int -/

/-! ### del xs[i] -/
end

/-! ### xs[a:b] = ys -/
section
variable {prog : Program} {w : World} {A : Around} {E : Value → Shared → Prop} {s : Shared}
set_option maxRecDepth 100000 in
end

section
variable {X : Cx}
end
end L2

namespace L2
open PySem PySem.Spec PyProof.Rows

theorem Vals.ints : ∀ {ns : List Int} {us : List Value}, Vals (ns.map V.int) us → IntsAre us ns
  | [], us, h => by
    rw [List.map_nil] at h
    cases h
    exact IntsAre.nil
  | n :: ns, us, h => by
    rw [List.map_cons] at h
    cases h with
    | cons r t =>
      obtain ⟨k, rfl⟩ := r
      exact IntsAre.cons n k (Vals.ints t)
theorem Vals.bls : ∀ {bs : List Bool} {us : List Value}, Vals (bs.map V.bl) us → us = bs.map Value.bool
  | [], us, h => by
    rw [List.map_nil] at h
    cases h
    rfl
  | b :: bs, us, h => by
    rw [List.map_cons] at h
    cases h with
    | cons r t =>
      cases r
      rw [Vals.bls t, List.map_cons]
theorem Vals.ref1 {a : Addr} {us : List Value} (r : Vals [V.ref a] us) : us = [Value.ref a] := by
  cases r with
  | cons r t =>
    cases t
    cases r
    rfl

/-! ### the library's walks over a list of ints, kept objects alone -/
section
variable {prog : Program} {w : World} {A : Around} {E : Value → Shared → Prop} {s : Shared} {l : Addr} {its : List Value} {ns : List Int} {Q : Value → Shared → Prop}
end

/-! ### the calls, by values (CallR of 03t; MtR of 06l) -/
section
variable {X : Cx}

/-! sorted, sort (fewer than 64 items: the library's own bound) -/
end

/-! ### list.index, flat items -/
section
variable {X : Cx}
end

/-! ### type(x) of an own instance; is, is not of a module's class -/
section
variable {X : Cx}
end

/-! ### any(xs), all(xs) of a list of bools -/
theorem iter_any {prog : Program} {w : World} {A : Around} {E : Value → Shared → Prop} {s : Shared} {l : Addr} {items : Array Value} {Q : Value → Shared → Prop} (hl : s.heap.IsList l items)
    (h : ∀ s₂ : Shared, s₂ = { s with heap := s.heap.push { cls := .type "list_iterator", data := .fields #[.ref l, .int 0 0] } } →
      (s₂.heap.IsListIter s.heap.objs.size l 0 ∧ s₂.heap.IsList l items) → l ≠ s.heap.objs.size → Q (.ref s.heap.objs.size) s₂) : wpAny (model prog w) A (pyIter (.ref l)) Q E s := by
  have hlt : l < s.heap.objs.size := by obtain ⟨_, e, _⟩ := hl; exact Heap.lt_size e
  exact wpAny_pyIter_list hl (h _ rfl ⟨⟨_, Heap.get?_push_size _ rfl, rfl, rfl⟩, hl.push _⟩ (Nat.ne_of_lt hlt))
theorem truth_bools {prog : Program} {w : World} {A : Around} {bs : List Bool} {its : List Value} (e : its = bs.map Value.bool) :
    TruthOf prog w A (fun i v => its.toArray[i]? = some v) (fun i => bs.getD i false) := fun i v s Q E hv hq => by
  have hv' : its[i]? = some v := by simpa using hv
  rw [e, List.getElem?_map] at hv'
  obtain ⟨b, hb, rfl⟩ := Option.map_eq_some_iff.mp hv'
  have hg : bs.getD i false = b := by rw [List.getD_eq_getElem?_getD, hb] <;> rfl
  have hq' : Q (bs.getD i false) s := hq
  rw [hg] at hq'
  exact wpAny_truthy_bool hq'
theorem any_range : ∀ bs : List Bool, (List.range bs.length).any (fun i => bs.getD i false) = bs.any id
  | [] => rfl
  | b :: bs => by
    rw [List.length_cons, List.range_succ_eq_map, List.any_cons, List.any_map, List.any_cons, ← any_range bs]
    all_goals rfl
theorem all_range : ∀ bs : List Bool, (List.range bs.length).all (fun i => bs.getD i false) = bs.all id
  | [] => rfl
  | b :: bs => by
    rw [List.length_cons, List.range_succ_eq_map, List.all_cons, List.all_map, List.all_cons, ← all_range bs]
    all_goals rfl
section
variable {X : Cx}
noncomputable def rAny (K : PySem.W.Frag) : List V → Hp → VK → Prop := fun vs H Q => ∃ (a : Addr) (bs : List Bool), vs = [V.ref a] ∧ SqL K H a (bs.map V.bl) ∧ Q (.bl (bs.any id)) H
noncomputable def rAll (K : PySem.W.Frag) : List V → Hp → VK → Prop := fun vs H Q => ∃ (a : Addr) (bs : List Bool), vs = [V.ref a] ∧ SqL K H a (bs.map V.bl) ∧ Q (.bl (bs.all id)) H
theorem cr_any (hc : X.calm = true) : CallR X (.builtin "any") (rAny X.K) := by
  intro pins s σ H vs us Q I r h
  obtain ⟨a, bs, rfl, hs, q⟩ := h
  obtain ⟨its, rv, hl, _⟩ := I.list hs
  rw [Vals.ref1 r]
  have hb := rv.bls
  refine call_any_walk (iter_any hl.isList fun s₂ e2 st hne => ?_)
  subst e2
  refine ⟨_, _, _, _, _, _, _, rfl, Walks.list (A := X.A.in1) (I.ok.hd hc) _ a hne its.toArray, st, truth_bools hb, fun h' tk hk => ?_⟩
  refine ⟨.bl _, H, I.kept fun b o eo => hk b o (fun hmem => ?_) (Heap.get?_push_of_some _ eo), ?_, q⟩
  · rcases List.mem_cons.mp hmem with e1 | hmem
    · exact absurd (e1 ▸ Heap.lt_size eo) (Nat.lt_irrefl _)
    · cases hmem
  · show Value.bool _ = Value.bool _
    rw [← any_range, hb, List.size_toArray, List.length_map]
theorem cr_all (hc : X.calm = true) : CallR X (.builtin "all") (rAll X.K) := by
  intro pins s σ H vs us Q I r h
  obtain ⟨a, bs, rfl, hs, q⟩ := h
  obtain ⟨its, rv, hl, _⟩ := I.list hs
  rw [Vals.ref1 r]
  have hb := rv.bls
  refine call_all_walk (iter_any hl.isList fun s₂ e2 st hne => ?_)
  subst e2
  refine ⟨_, _, _, _, _, _, _, rfl, Walks.list (A := X.A.in1) (I.ok.hd hc) _ a hne its.toArray, st, truth_bools hb, fun h' tk hk => ?_⟩
  refine ⟨.bl _, H, I.kept fun b o eo => hk b o (fun hmem => ?_) (Heap.get?_push_of_some _ eo), ?_, q⟩
  · rcases List.mem_cons.mp hmem with e1 | hmem
    · exact absurd (e1 ▸ Heap.lt_size eo) (Nat.lt_irrefl _)
    · cases hmem
  · show Value.bool _ = Value.bool _
    rw [← all_range, hb, List.size_toArray, List.length_map]
end

/-! ### == and != of data at any depth: none, bools, ints, texts, lists, tuples -/
section
variable {X : Cx} {pins : List (Addr × Obj)} {σ : St} {H : Hp} {s : Shared}
end
section
variable {X : Cx}
end
end L2

namespace L2
open PySem PySem.Spec PyProof.Rows
noncomputable abbrev CellAt (h : Heap) (c : Addr) (v : Option Value) : Prop := h.IsCell c v
noncomputable def relS (scope sc : Scope) : Scope :=
  { scope with names := scope.names.map fun (n, k) => if (k == .free && sc.kind == .function && sc.names.lookup n == some .cell) then (n, .cell) else (n, k) }

noncomputable def cloFrom (cells : List (Str × Addr)) : List (Str × NameKind) → List (Str × Addr) → List (Str × Addr)
  | [], acc => acc
  | (n, k) :: r, acc => if k == .free then cloFrom cells r ((n, (cells.lookup n).getD 0) :: acc) else cloFrom cells r acc

theorem closure_loop (env : Env) (f : Str × NameKind → List (Str × Addr) → Sem (ForInStep (List (Str × Addr))))
    (hf : ∀ n k c, f (n, k) c = if k == .free then (do let a ← cellOf env n; pure (.yield ((n, a) :: c))) else pure (.yield c)) :
    ∀ (names : List (Str × NameKind)) (acc : List (Str × Addr)), (∀ y ∈ names, y.2 = .free → ∃ c, env.cells.lookup y.1 = some c) → forIn names acc f = pure (cloFrom env.cells names acc)
  | [], acc, _ => by rw [List.forIn_nil]; rfl
  | (n, k) :: r, acc, h => by
    rw [List.forIn_cons, hf]
    have ih := fun acc => closure_loop env f hf r acc fun y hy => h y (List.mem_cons_of_mem _ hy)
    unfold cloFrom
    by_cases hk : (k == NameKind.free) = true
    · rw [if_pos hk, if_pos hk]
      obtain ⟨c, hc⟩ := h (n, k) List.mem_cons_self (by simpa using hk)
      have e : cellOf env n = pure c := by unfold cellOf; rw [hc]
      rw [e]
      have e2 : (env.cells.lookup n).getD 0 = c := by rw [hc]; rfl
      rw [e2]
      exact ih _
    · rw [if_neg hk, if_neg hk]
      exact ih _
theorem closure_ok {scope : Scope} {env : Env} (h : ∀ y ∈ scope.names, y.2 = .free → ∃ c, env.cells.lookup y.1 = some c) : closureFor scope env = pure (cloFrom env.cells scope.names []) := by
  simp only [closureFor]
  rw [closure_loop env _ (fun n k c => rfl) scope.names [] h]
  rfl

theorem mem_lookup {α : Type} : ∀ {l : List (Str × α)} {n : Str} {c : α}, (n, c) ∈ l → ∃ c', l.lookup n = some c'
  | (k, v) :: r, n, c, h => by
    rw [List.lookup_cons]
    cases hb : n == k with
    | true => exact ⟨_, rfl⟩
    | false =>
      rcases List.mem_cons.mp h with e | h
      · cases e; simp at hb
      · exact mem_lookup h

theorem cloFrom_mem {cells : List (Str × Addr)} : ∀ {names : List (Str × NameKind)} {acc : List (Str × Addr)} {n : Str} {c : Addr}, (n, c) ∈ cloFrom cells names acc → (n, c) ∈ acc ∨ ((n, .free) ∈ names ∧ c = (cells.lookup n).getD 0)
  | [], _, _, _, h => .inl h
  | (m, k) :: r, acc, n, c, h => by
    unfold cloFrom at h
    split at h
    · rename_i hk
      have hk : k = .free := by simpa using hk
      rcases cloFrom_mem h with h | ⟨h1, h2⟩
      · rcases List.mem_cons.mp h with e | h
        · cases e; exact .inr ⟨hk ▸ List.mem_cons_self, rfl⟩
        · exact .inl h
      · exact .inr ⟨List.mem_cons_of_mem _ h1, h2⟩
    · rcases cloFrom_mem h with h | ⟨h1, h2⟩
      · exact .inl h
      · exact .inr ⟨List.mem_cons_of_mem _ h1, h2⟩
theorem cloFrom_acc {cells : List (Str × Addr)} : ∀ {names : List (Str × NameKind)} {acc : List (Str × Addr)} {p : Str × Addr}, p ∈ acc → p ∈ cloFrom cells names acc
  | [], _, _, h => h
  | (m, k) :: r, acc, p, h => by
    unfold cloFrom
    split
    · exact cloFrom_acc (List.mem_cons_of_mem _ h)
    · exact cloFrom_acc h
theorem cloFrom_has {cells : List (Str × Addr)} : ∀ {names : List (Str × NameKind)} {acc : List (Str × Addr)} {n : Str}, (n, .free) ∈ names → (n, (cells.lookup n).getD 0) ∈ cloFrom cells names acc
  | (m, k) :: r, acc, n, h => by
    unfold cloFrom
    rcases List.mem_cons.mp h with e | h
    · cases e
      exact cloFrom_acc List.mem_cons_self
    · split
      · exact cloFrom_has h
      · exact cloFrom_has h

theorem cells_mem : ∀ {names : List (Str × NameKind)} {h : Heap} {acc : List (Str × Addr)} {x : Str} {c : Addr}, (x, c) ∈ cellsFrom h.objs.size names acc →
    (x, c) ∈ acc ∨ ((x, .cell) ∈ names ∧ h.objs.size ≤ c ∧ CellAt (pushCells h names) c none)
  | [], _, _, _, _, h => .inl h
  | (n, k) :: r, h, acc, x, c, hm => by
    unfold cellsFrom at hm
    unfold pushCells
    split at hm
    · rename_i hk
      rw [if_pos hk]
      have hk : k = .cell := by simpa using hk
      rw [← Heap.size_push h { cls := .type "cell", data := .cell none }] at hm
      rcases cells_mem hm with hm | ⟨h1, h2, h3⟩
      · rcases List.mem_cons.mp hm with e | hm
        · cases e
          exact .inr ⟨hk ▸ List.mem_cons_self, Nat.le_refl _, _, pushCells_keeps r _ _ _ (Heap.get?_push_size _ rfl), rfl⟩
        · exact .inl hm
      · rw [Heap.size_push] at h2
        exact .inr ⟨List.mem_cons_of_mem _ h1, Nat.le_of_succ_le h2, h3⟩
    · rename_i hk
      rw [if_neg hk]
      rcases cells_mem hm with hm | ⟨h1, h2, h3⟩
      · exact .inl hm
      · exact .inr ⟨List.mem_cons_of_mem _ h1, h2, h3⟩
theorem cells_acc : ∀ {names : List (Str × NameKind)} {n : Nat} {acc : List (Str × Addr)} {p : Str × Addr}, p ∈ acc → p ∈ cellsFrom n names acc
  | [], _, _, _, h => h
  | (m, k) :: r, n, acc, p, h => by
    unfold cellsFrom
    split
    · exact cells_acc (List.mem_cons_of_mem _ h)
    · exact cells_acc h
theorem cells_has : ∀ {names : List (Str × NameKind)} {n : Nat} {acc : List (Str × Addr)} {x : Str}, (x, .cell) ∈ names → ∃ c, (x, c) ∈ cellsFrom n names acc
  | (m, k) :: r, n, acc, x, h => by
    unfold cellsFrom
    rcases List.mem_cons.mp h with e | h
    · cases e
      exact ⟨n, cells_acc List.mem_cons_self⟩
    · split
      · exact cells_has h
      · exact cells_has h
theorem cells_inj : ∀ {names : List (Str × NameKind)} {h : Heap} {acc : List (Str × Addr)} {x y : Str} {c : Addr}, (∀ p ∈ acc, p.2 < h.objs.size) → (∀ x y c, (x, c) ∈ acc → (y, c) ∈ acc → x = y) →
    (x, c) ∈ cellsFrom h.objs.size names acc → (y, c) ∈ cellsFrom h.objs.size names acc → x = y
  | [], _, _, _, _, _, _, hi, h1, h2 => hi _ _ _ h1 h2
  | (n, k) :: r, h, acc, x, y, c, hl, hi, h1, h2 => by
    unfold cellsFrom at h1 h2
    split at h1
    · rename_i hk
      rw [if_pos hk] at h2
      rw [← Heap.size_push h { cls := .type "cell", data := .cell none }] at h1 h2
      refine cells_inj (h := h.push _) (fun p hp => ?_) (fun x y c a b => ?_) h1 h2
      · rw [Heap.size_push]
        rcases List.mem_cons.mp hp with rfl | hp
        · exact Nat.lt_succ_self _
        · exact Nat.lt_succ_of_lt (hl p hp)
      · rcases List.mem_cons.mp a with e | a <;> rcases List.mem_cons.mp b with e' | b
        · cases e; cases e'; rfl
        · cases e; exact absurd (hl _ b) (Nat.lt_irrefl _)
        · cases e'; exact absurd (hl _ a) (Nat.lt_irrefl _)
        · exact hi _ _ _ a b
    · rename_i hk
      rw [if_neg hk] at h2
      exact cells_inj hl hi h1 h2

theorem newEnv_comp {M : Model} {A : Around} {E : Value → Shared → Prop} {s : Shared} {scope : Scope} {globals : Addr} {closure : List (Str × Addr)} {qual : Str} {func : Option Addr} {code : Value} {around : Env} {builtins : Addr} {Q : Env → Shared → Prop}
    (h : Q (newEnv scope s.heap.objs.size globals (cellsFrom (s.heap.objs.size + 1) scope.names closure) qual func code (some around) builtins)
      { s with heap := pushCells (s.heap.push { cls := .type "dict", data := .dict #[] }) scope.names }) :
    wpAny M A (newFunctionEnv scope globals closure [] qual func code (some around) builtins) Q E s := by
  simp only [newFunctionEnv, Option.isSome_some, if_true]
  refine wpAny_bind (wpAny_alloc ?_)
  refine wpAny_bind (wpAny_layCells _ (fun n k c => rfl) scope.names closure _ _ ?_)
  rw [show ({ s with heap := s.heap.push { cls := .type "dict", data := .dict #[] } } : Shared).heap.objs.size = s.heap.objs.size + 1 from Heap.size_push ..]
  rw [List.forIn_nil]
  exact wpAny_bind (wpAny_pure (wpAny_pure h))

/-- every name of the written scope, in the scope that runs -/
theorem lookup_relS {sc : Scope} : ∀ {names : List (Str × NameKind)} {x : Str} {k : NameKind},
    (names.map fun (n, k) => if (k == NameKind.free && sc.kind == .function && sc.names.lookup n == some .cell) then (n, NameKind.cell) else (n, k)).lookup x = some k →
    ∃ k', names.lookup x = some k' ∧ (k = k' ∨ (k' = .free ∧ k = .cell))
  | [], _, _, h => by simp at h
  | (n, k₀) :: r, x, k, h => by
    have ih := @lookup_relS sc r x k
    have h' : List.lookup x ((if (k₀ == NameKind.free && sc.kind == .function && sc.names.lookup n == some .cell) = true then (n, NameKind.cell) else (n, k₀)) :: (r.map _)) = some k := h
    cases hx : x == n with
    | true =>
      simp only [List.lookup_cons, hx]
      by_cases hc : (k₀ == NameKind.free && sc.kind == .function && sc.names.lookup n == some .cell) = true
      · rw [if_pos hc] at h'
        simp only [List.lookup_cons, hx] at h'
        cases h'
        simp only [Bool.and_eq_true, beq_iff_eq] at hc
        exact ⟨k₀, rfl, .inr ⟨hc.1.1, rfl⟩⟩
      · rw [if_neg hc] at h'
        simp only [List.lookup_cons, hx] at h'
        cases h'
        exact ⟨_, rfl, .inl rfl⟩
    | false =>
      simp only [List.lookup_cons, hx]
      by_cases hc : (k₀ == NameKind.free && sc.kind == .function && sc.names.lookup n == some .cell) = true
      · rw [if_pos hc] at h'
        simp only [List.lookup_cons, hx] at h'
        exact ih h'
      · rw [if_neg hc] at h'
        simp only [List.lookup_cons, hx] at h'
        exact ih h'



/-- the names of a comprehension's block: its own (with their places in N), or captured -/
structure BlkOk (N : List Str) (sc scope : Scope) (own : List (Str × Nat)) : Prop where
  kind : scope.kind = .function
  uniq : ∀ y ∈ scope.names, scope.names.lookup y.1 = some y.2
  ix : ∀ p ∈ own, N[p.2]? = some p.1
  free : ∀ y ∈ scope.names, y.2 = .free → sc.names.lookup y.1 = some .cell ∨ sc.names.lookup y.1 = some .free
  own : ∀ y ∈ scope.names, y.2 = .local ∨ y.2 = .cell → y.1 ∈ own.map (·.1) ∨ y.1 ∉ N
/-- the slots of the block's own names forgotten -/
noncomputable def wipe (σ : St) : List Nat → St
  | [] => σ
  | v :: vs => (wipe σ vs).set v none
theorem wipe_length (σ : St) : ∀ vs : List Nat, (wipe σ vs).length = σ.length
  | [] => rfl
  | v :: vs => by unfold wipe; rw [List.length_set, wipe_length σ vs]
theorem wipe_some {σ : St} {i : Nat} {x : V} : ∀ {vs : List Nat}, (wipe σ vs)[i]? = some (some x) → σ[i]? = some (some x) ∧ i ∉ vs
  | [], h => ⟨h, by simp⟩
  | v :: vs, h => by
    unfold wipe at h
    by_cases hi : v = i
    · subst hi
      by_cases hv : v < (wipe σ vs).length
      · rw [List.getElem?_set_self hv] at h; cases h
      · rw [List.getElem?_eq_none (by simpa using hv)] at h; cases h
    · rw [List.getElem?_set_ne hi] at h
      obtain ⟨h1, h2⟩ := wipe_some h
      exact ⟨h1, by simp only [List.mem_cons, not_or]; exact ⟨fun e => hi e.symm, h2⟩⟩

/-- the context of a block that starts at s, its iterator's objects at fp -/
noncomputable abbrev Cx.blk (X : Cx) (s : Shared) (H : Hp) (scope : Scope) (cenv : Env) (fp : List Addr) : Cx := { X with s₀ := s, H₀ := H, env := cenv, outer := X.stack, ex := fp, fn := fun x => scope.names.lookup x == some .cell, pn := [], xe := fun _ _ => False }
section
variable {X : Cx} {pins : List (Addr × Obj)} {σ : St} {H : Hp} {s : Shared}
theorem block_start {scope : Scope} {own : List (Str × Nat)} {fp : List Addr} (I : Inv X pins σ H s) (ok : BlkOk X.N X.env.scope scope own) (hN : X.N.Nodup) (hfp : ∀ b ∈ fp, FpOk X pins H b ∧ b < s.heap.objs.size) :
    Inv (X.blk s H scope (compEnvC scope (cellsFrom (s.heap.objs.size + 1) scope.names (cloFrom X.env.cells scope.names [])) s.heap.objs.size X.env) fp) [] (wipe σ (own.map (·.2))) H { s with heap := pushCells (s.heap.push { cls := .type "dict", data := .dict #[] }) scope.names } := by
  have hfree : ∀ y ∈ scope.names, y.2 = .free → ∃ c, X.env.cells.lookup y.1 = some c := fun y hy e => by
    rcases ok.free y hy e with k | k
    · exact I.ok.has _ (.inl k)
    · exact I.ok.has _ (.inr k)
  generalize hcenv : compEnvC scope (cellsFrom (s.heap.objs.size + 1) scope.names (cloFrom X.env.cells scope.names [])) s.heap.objs.size X.env = cenv
  have kp : ∀ b o, s.heap.get? b = some o → (pushCells (s.heap.push { cls := .type "dict", data := .dict #[] }) scope.names).get? b = some o := fun b o e => pushCells_keeps _ _ _ _ (Heap.get?_push_of_some _ e)
  have hL : cenv.locals = s.heap.objs.size := by rw [← hcenv]; rfl
  have hcl : cenv.cells = cellsFrom (s.heap.objs.size + 1) scope.names (cloFrom X.env.cells scope.names []) := by rw [← hcenv]; rfl
  have hsc : cenv.scope = relS scope X.env.scope := by rw [← hcenv]; rfl
  rw [← Heap.size_push s.heap { cls := .type "dict", data := .dict #[] }] at hcl
  have cm : ∀ {y c}, (y, c) ∈ cloFrom X.env.cells scope.names [] → X.env.cells.lookup y = some c ∧ c < s.heap.objs.size := fun {y c} hm => by
    rcases cloFrom_mem hm with hm | ⟨h1, rfl⟩
    · cases hm
    · obtain ⟨c, hc⟩ := hfree _ h1 rfl
      rw [hc]
      obtain ⟨w, z⟩ := I.cell _ _ hc
      exact ⟨rfl, z.lt⟩
  have mem : ∀ {y c}, cenv.cells.lookup y = some c → (X.env.cells.lookup y = some c ∧ c < s.heap.objs.size) ∨ (s.heap.objs.size + 1 ≤ c ∧ CellAt (pushCells (s.heap.push { cls := .type "dict", data := .dict #[] }) scope.names) c none) := fun {y c} e => by
    rw [hcl] at e
    rcases cells_mem (PySem.mem_of_lookup e) with hm | ⟨_, h2, h3⟩
    · exact .inl (cm hm)
    · rw [Heap.size_push] at h2; exact .inr ⟨h2, h3⟩
  have look : ∀ {y}, scope.names.lookup y = some .free → ∃ c, cenv.cells.lookup y = some c ∧ X.env.cells.lookup y = some c := fun {y} hl => by
    have hy : (y, NameKind.free) ∈ scope.names := PySem.mem_of_lookup hl
    obtain ⟨c', e'⟩ := mem_lookup (cells_acc (names := scope.names) (n := (s.heap.push { cls := .type "dict", data := .dict #[] }).objs.size) (cloFrom_has (cells := X.env.cells) (acc := []) hy))
    rw [← hcl] at e'
    refine ⟨c', e', ?_⟩
    rw [hcl] at e'
    rcases cells_mem (PySem.mem_of_lookup e') with hm | ⟨h1, _, _⟩
    · exact (cm hm).1
    · have := ok.uniq _ h1
      rw [hl] at this; cases this
  have okB : (X.blk s H scope cenv fp).Ok := by
    refine ⟨I.ok.mod, by show cenv.scope.kind = _; rw [hsc]; exact ok.kind, by show cenv.globals = _; rw [← hcenv]; exact I.ok.glob, by show cenv.builtins = _; rw [← hcenv]; exact I.ok.blt, by show s.heap.objs.size ≤ cenv.locals; rw [hL]; exact Nat.le_refl _,
      fun y z c e1 e2 => ?_, fun y hy => ?_, fun y c z e => ?_, I.ok.hd, I.ok.frames, .inl rfl, fun b hb => ⟨?_, fun y c e z => ?_⟩, I.bs, Nat.le_trans I.ok.bsz I.sz, fun b o e hb => ?_, fun b hb z => ?_, I.stack, I.stkFree⟩
    · have e1 : cenv.cells.lookup y = some c := e1
      have e2 : cenv.cells.lookup z = some c := e2
      rw [hcl] at e1 e2
      refine cells_inj (fun p hp => ?_) (fun y z c a b => I.ok.inj y z c (cm a).1 (cm b).1) (PySem.mem_of_lookup e1) (PySem.mem_of_lookup e2)
      rw [Heap.size_push]
      exact Nat.lt_succ_of_lt (cm (y := p.1) (c := p.2) hp).2
    · show ∃ c, cenv.cells.lookup y = some c
      have key : ∀ k, cenv.kindOf y = some k → (k = .cell ∨ k = .free) → ∃ c, cenv.cells.lookup y = some c := fun k hk hk' => by
        unfold Env.kindOf at hk
        rw [hsc] at hk
        obtain ⟨k', e, r⟩ := lookup_relS hk
        have : k' = .cell ∨ k' = .free := by
          rcases r with rfl | ⟨rfl, _⟩
          · exact hk'
          · exact .inr rfl
        rcases this with rfl | rfl
        · obtain ⟨c, hm⟩ := cells_has (n := (s.heap.push { cls := .type "dict", data := .dict #[] }).objs.size) (acc := cloFrom X.env.cells scope.names []) (PySem.mem_of_lookup e)
          obtain ⟨c', e'⟩ := mem_lookup hm
          exact ⟨c', by rw [hcl]; exact e'⟩
        · obtain ⟨c, h1, _⟩ := look e
          exact ⟨c, h1⟩
      rcases hy with hy | hy
      · exact key _ hy (.inl rfl)
      · exact key _ hy (.inr rfl)
    · have z : (scope.names.lookup y == some NameKind.cell) = true := z
      have z : scope.names.lookup y = some .cell := by simpa using z
      have e : cenv.cells.lookup y = some c := e
      rw [hcl] at e
      rcases cells_mem (PySem.mem_of_lookup e) with hm | ⟨_, h2, _⟩
      · rcases cloFrom_mem hm with hm | ⟨h1, _⟩
        · cases hm
        · have q := ok.uniq _ h1
          rw [z] at q; cases q
      · rw [Heap.size_push] at h2
        exact Nat.le_of_succ_le h2
    · show b ≠ cenv.locals
      rw [hL]; exact Nat.ne_of_lt (hfp b hb).2
    · have e : cenv.cells.lookup y = some c := e
      rcases mem e with ⟨h1, _⟩ | ⟨h1, _⟩
      · exact (hfp b hb).1.2.2.2.2.1 y c h1 z
      · have h2 : s.heap.objs.size + 1 ≤ b := by rw [← z]; exact h1
        exact absurd (Nat.lt_of_lt_of_le (hfp b hb).2 (Nat.le_of_succ_le h2)) (Nat.lt_irrefl _)
    · rcases (hfp b hb).1.2.2.2.1 with z | z
      · exact I.ok.noex b o e z
      · exact absurd (Nat.lt_of_lt_of_le (Heap.lt_size e) (Nat.le_trans I.ok.bsz z)) (Nat.lt_irrefl _)
    · rcases List.mem_cons.mp (I.stkSub b z) with z | z
      · exact (hfp b hb).1.2.1 z
      · exact (hfp b hb).1.2.2.1 z
  refine ⟨okB, rfl, I.bare, Un.kept kp, ⟨fun _ => none, ?_, fun i y av e1 e2 e3 => ?_⟩, fun y c e => ?_, ?_, fun y c e => ?_, fun p hp => ?_, I.hok.kept kp, by rw [wipe_length]; exact I.len⟩
  · show Heap.Ns _ cenv.locals _
    rw [hL]
    exact Heap.Ns.keeps (Heap.Ns.new ..) fun b o e => pushCells_keeps _ _ _ _ e
  · obtain ⟨e2, hne⟩ := wipe_some e2
    have hfr : scope.names.lookup y = some .free ∧ (cenv.kindOf y = some .cell ∨ cenv.kindOf y = some .free) := by
      have key : ∀ k, cenv.scope.names.lookup y = some k → k = .local ∨ k = .cell ∨ k = .free → scope.names.lookup y = some .free ∧ (cenv.kindOf y = some .cell ∨ cenv.kindOf y = some .free) := fun k hk hk' => by
        have hk0 := hk
        rw [hsc] at hk
        obtain ⟨k', e, r⟩ := lookup_relS hk
        have no : ¬ (k' = .local ∨ k' = .cell) := fun hh => by
          rcases ok.own _ (PySem.mem_of_lookup e) hh with e' | e'
          · obtain ⟨p, hp, hpy⟩ := List.mem_map.mp e'
            have e3 := ok.ix p hp
            have : p.1 = y := hpy
            rw [this] at e3
            exact hne (List.mem_map.mpr ⟨p, hp, nodup_ix hN e3 e1⟩)
          · exact e' (List.mem_of_getElem? e1)
        rcases r with rfl | ⟨rfl, rfl⟩
        · rcases hk' with rfl | rfl | rfl
          · exact absurd (.inl rfl) no
          · exact absurd (.inr rfl) no
          · exact ⟨e, .inr hk0⟩
        · exact ⟨e, .inl hk0⟩
      have e3 : Vis cenv.scope y := e3
      rcases e3 with e3 | e3 | e3
      · exact key _ e3 (.inl rfl)
      · exact key _ e3 (.inr (.inl rfl))
      · exact key _ e3 (.inr (.inr rfl))
    obtain ⟨m, hn, hl⟩ := I.loc
    have hvis : Vis X.env.scope y := (ok.free _ (PySem.mem_of_lookup hfr.1) rfl).elim (fun k => .inr (.inl k)) (fun k => .inr (.inr k))
    obtain ⟨w, r, q⟩ := hl i y av e1 e2 hvis
    refine ⟨w, r, .inr ⟨hfr.2, ?_⟩⟩
    obtain ⟨c, h1, h2⟩ := look hfr.1
    rcases q with ⟨k, _⟩ | ⟨_, c', e', z⟩
    · have k : X.env.scope.names.lookup y = some .local := k
      rcases ok.free _ (PySem.mem_of_lookup hfr.1) rfl with k' | k' <;> rw [show X.env.scope.names.lookup y = _ from k'] at k <;> cases k
    · rw [h2] at e'; cases e'
      exact ⟨c, h1, z.keeps kp⟩
  · have e : cenv.cells.lookup y = some c := e
    rcases mem e with ⟨h1, _⟩ | ⟨_, z⟩
    · obtain ⟨w, z⟩ := I.cell y c h1
      exact ⟨w, z.keeps kp⟩
    · exact ⟨_, z⟩
  · show H cenv.locals = none
    rw [hL]; exact I.hok.fresh (Nat.le_refl _)
  · have e : cenv.cells.lookup y = some c := e
    rcases mem e with ⟨h1, _⟩ | ⟨h1, _⟩
    · exact I.freeC y c h1
    · exact I.hok.fresh (Nat.le_of_succ_le h1)
  · exact absurd (show p ∈ ([] : List (Addr × Obj)) ++ [] from hp) (by simp)

/-- an item appended to a tracked list -/
theorem app_ok {E : Value → Shared → Prop} {D : Addr} {xs : List V} {y : V} {v : Value} {Q : Value → Shared → Prop} (I : Inv X pins σ H s) (hD : H D = some (.lst xs)) (hz : xs.length < sizeLine) (r : RelV y v)
    (h : ∀ s', Inv X pins σ (upd H D (.lst (xs ++ [y]))) s' → Q .none s') : wpAny (model X.prog X.w) X.A (call (.builtin "list.append") [.ref D, v]) Q E s := by
  obtain ⟨hz', its, n, ri, e⟩ := I.hok D _ hD
  have hl := ri.length
  refine append_at (hsz := by rw [List.size_toArray]; omega) e fun h' sb ho' => ?_
  refine h { s with heap := h' } (I.write (t' := s.toks) (by rw [hD]; trivial) (.inl rfl) (fun b u hb q => (sb.2 b hb).trans q) ⟨_, ho'⟩ ⟨by rw [List.length_append]; exact hz, its ++ [v], n + 1, ri.append (.cons r .nil), ?_⟩)
  rw [ho']
  simp

/-- a clause's tests -/
noncomputable def PTs (X : Cx) (ifs : List Expr) (t : TT) : Prop :=
  ∀ (pins : List (Addr × Obj)) (s : Shared) (σ : St) (H : Hp) (Q : Bool → Hp → Prop), Inv X pins σ H s → t σ H Q →
    wpAny (model X.prog X.w) X.A (forIn ifs true fun c r => if r = true then do let ok ← isTrue c X.env (eval c X.env); pure (ForInStep.yield ok) else pure (ForInStep.yield r)) (TP X pins σ Q) X.xe s
noncomputable def tYes : TT := fun _ H Q => Q true H
theorem pts_nil : PTs X [] tYes := fun _ _ _ H _ I h => wpAny_tests_nil ⟨H, I, h⟩
theorem pts_one {c : Expr} {t : TT} (h : PT X c t) : PTs X [c] t := fun pins s σ H Q I hw => wpAny_tests_one (h pins s σ H Q I hw)
end

theorem thnF {α : Type} {t : Sem α} {Q Q' : α → Shared → Prop} {M : Model} {A : Around} {E : Value → Shared → Prop} {s : Shared} (h : wpAny M A t Q (fun _ _ => False) s) (hQ : ∀ a s, Q a s → Q' a s) : wpAny M A t Q' E s := wpAny_mono h hQ fun _ _ z => False.elim z

/-- the loop of a list comprehension's block, the target of any form (codeAny_compLoop_tests asks a target that no tuple goes to; statement and proof follow it, PyProof/CompMap.lean:41-61, with the step letOwnedTupleGo kept) -/
theorem compLoop_any {prog : Program} {w : World} {A : Around} {R : Result → Shared → Prop} {s : Shared} {elt target iter : Expr} {ifs : List Expr} {scope : Scope} {pos : Pos} {it acc : Value} {env : Env} (I : Nat → Shared → Prop)
    (turn : ∀ n s, I n s → wpAny (model prog w) A (pyNext it) (fun r s₁ => match r with
      | none => R (.ok .next) s₁
      | some v => wpAny (model prog w) A (letOwnedTupleGo target it v) (fun _ s₁' => wpAny (model prog w) A (assign target env v) (fun _ s₂ =>
          wpAny (model prog w) A (forIn ifs true fun c r => if r = true then do let ok ← isTrue c env (eval c env); pure (ForInStep.yield ok) else pure (ForInStep.yield r)) (fun ok s₃ =>
            if ok = true then wpAny (model prog w) A (eval elt env) (fun x s₄ =>
              wpAny (model prog w) A (call (.builtin "list.append") [acc, x]) (fun _ s₅ => ∃ m, m < n ∧ I m s₅) (notedBy (model prog w) A env fun e s' => R (.error e) s') s₄) (notedBy (model prog w) A env fun e s' => R (.error e) s') s₃
            else ∃ m, m < n ∧ I m s₃) (notedBy (model prog w) A env fun e s' => R (.error e) s') s₂) (notedBy (model prog w) A env fun e s' => R (.error e) s') s₁') (notedBy (model prog w) A env fun e s' => R (.error e) s') s₁) (notedBy (model prog w) A env fun e s' => R (.error e) s') s)
    (n : Nat) (h : I n s) :
    codeAny (model prog w) A (.compLoop (.ListComp elt [⟨target, iter, ifs, 0⟩] scope pos) 0 it acc env) R s := by
  refine codeAny_loop rfl I (fun n s hI => ?_) n h
  show wpAny _ A ((compTurn (.ListComp elt [⟨target, iter, ifs, 0⟩] scope pos) 0 it acc env).onRaise (fun x => do noteFrame x env; theTreesLotGoes x)) _ _ s
  refine wpAny_noted ?_
  rw [compTurn_list]
  refine wpAny_bind (wpAny_standAt (wpAny_bind (wpAny_mono (turn n s hI) (fun r s₁ h₁ => ?_) fun _ _ h' => h')))
  cases r with
  | none => exact wpAny_pure h₁
  | some v =>
    refine wpAny_bind (wpAny_mono h₁ (fun _ s₁' h₁' => ?_) fun _ _ h' => h')
    refine wpAny_bind (wpAny_mono h₁' (fun _ s₂ h₂ => wpAny_bind (wpAny_mono h₂ (fun ok s₃ h₃ => ?_) fun _ _ h' => h')) fun _ _ h' => h')
    cases ok with
    | false => exact wpAny_pure ⟨rfl, h₃⟩
    | true =>
      exact wpAny_bind (wpAny_bind (wpAny_mono h₃ (fun x s₄ h₄ => wpAny_bind (wpAny_mono h₄ (fun _ s₅ h₅ => wpAny_pure (wpAny_pure ⟨rfl, h₅⟩)) fun _ _ h' => h')) fun _ _ h' => h'))

section
variable {X : Cx}
/-- [elt for target in iter if ..]: D the new list; W by the turn and a measure, Nx what a turn is to reach -/
noncomputable def tLc (wi : TI) (g : TG) (tt : TT) (te : TE) (vs : List Nat) : TE := fun σ H Q => wi σ H fun J H1 => ∀ D, H1 D = none → ∃ W : Nat → Nat → Hp → Prop, (∃ m, W 0 m (upd H1 D (.lst []))) ∧ ∀ i m H, W i m H →
  (J.stop i H ∧ Q (.ref D) H) ∨ (J.go i H ∧ ∃ Nx : Hp → Prop, (∀ H', Nx H' → ∃ m', m' < m ∧ W (i + 1) m' H') ∧ ∀ x H', J.yld i H x H' → g x (wipe σ vs) H' fun σ2 H2 => wipe σ2 vs = wipe σ vs ∧ tt σ2 H2 fun b H3 =>
    if b = true then te σ2 H3 fun y H4 => ∃ acc, H4 D = some (.lst acc) ∧ acc.length < sizeLine ∧ Nx (upd H4 D (.lst (acc ++ [y]))) else Nx H3)
theorem lc_core {pins : List (Addr × Obj)} {s : Shared} {σ : St} {H : Hp} {Q : VK} {elt tg iter : Expr} {ifs : List Expr} {scope : Scope} {own : List (Str × Nat)} {pos pos' : Pos} {wi : TI} {g : TG} {tt : TT} {te : TE} {use : Option (Value → Sem Unit)} {Qf : Value → Shared → Prop}
    (hc : X.calm = true) (hN : X.N.Nodup) (I : Inv X pins σ H s) (hi : PI X tg iter wi) (ok : BlkOk X.N X.env.scope scope own)
    (hg : ∀ (s : Shared) (H : Hp) (C : Addr) (cl : List (Str × Addr)) (fp : List Addr), PG (X.blk s H scope (compEnvC scope cl C X.env) fp) tg g) (ht : ∀ (s : Shared) (H : Hp) (C : Addr) (cl : List (Str × Addr)) (fp : List Addr), PTs (X.blk s H scope (compEnvC scope cl C X.env) fp) ifs tt)
    (he : ∀ (s : Shared) (H : Hp) (C : Addr) (cl : List (Str × Addr)) (fp : List Addr), PE (X.blk s H scope (compEnvC scope cl C X.env) fp) elt te) (hs : ∀ x, foldedSetIterable iter X.env x = pure x)
    (h : tLc wi g tt te (own.map (·.2)) σ H Q)
    (hRR : ∀ D C s' m H', Inv X pins σ H' s' → Q (.ref D) H' → s'.heap.Ns C m → FpOk X pins H' C → compPost (model X.prog X.w) X.A X.xe use Qf (.ref D) C (.ok .next) s') :
    wpAny (model X.prog X.w) X.A (comprehension (.ListComp elt [⟨tg, iter, ifs, 0⟩] scope pos) scope X.env pos' (newList []) false (eval iter X.env) use) Qf X.xe s := by
  have hfree : ∀ y ∈ scope.names, y.2 = .free → ∃ c, X.env.cells.lookup y.1 = some c := fun y hy e => by
    rcases ok.free y hy e with k | k
    · exact I.ok.has _ (.inl k)
    · exact I.ok.has _ (.inr k)
  refine wpAny_comprehension_free (use := use) rfl hs (closure_ok hfree) ok.kind (fun y hy e => by rw [ok.uniq y hy, e])
    (thn (hi pins s σ H _ I h) fun xv s1 hx => thn hx fun itv s2 h2 => ?_)
  obtain ⟨it, fp, tn, J, H2, e, I2, T, st2, f2, q⟩ := h2
  subst e
  refine wpAny_newObj_type (newEnv_comp ?_) (by show 0 ≤ sizeLine; decide)
  generalize hD : s2.heap.objs.size = D
  have hDn : H2 D = none := I2.hok.fresh (Nat.le_of_eq hD)
  obtain ⟨W, ⟨m0, w0⟩, turn⟩ := q D hDn
  -- the new list
  generalize hs3 : ({ s2 with heap := s2.heap.push { cls := .type "list", data := .seq ([] : List Value).toArray } } : Shared) = s3
  have I3 : Inv X pins σ (upd H2 D (.lst [])) s3 := by
    rw [← hs3]
    refine I2.laid (t' := s2.toks) (fun b o e => Heap.get?_push_of_some _ e) (Nat.le_of_eq hD) ⟨Nat.zero_le _, [], 0, .nil, ?_⟩
    rw [← hD]
    exact Heap.get?_push_size _ rfl
  have h3 : s3.heap = s2.heap.push { cls := .type "list", data := .seq ([] : List Value).toArray } := by rw [← hs3]
  have sz : ∀ b ∈ fp, b < s2.heap.objs.size := fun b hb => by
    obtain ⟨o, e, _⟩ := T.obj _ _ st2 b hb
    exact Heap.lt_size e
  have f3 : ∀ b ∈ fp, FpOk X pins (upd H2 D (.lst [])) b ∧ b < s3.heap.objs.size := fun b hb => by
    have hlt := sz b hb
    refine ⟨⟨?_, (f2 b hb).2⟩, by rw [h3, Heap.size_push]; exact Nat.lt_succ_of_lt hlt⟩
    rw [upd_ne (by rw [← hD]; exact Nat.ne_of_lt hlt)]
    exact (f2 b hb).1
  have st3 : tn 0 s3.heap := T.keep _ _ _ st2 fun b _ o e => by rw [h3]; exact Heap.get?_push_of_some _ e
  have I4 := block_start I3 ok hN f3
  have pg := hg s3 (upd H2 D (.lst [])) s3.heap.objs.size (cellsFrom (s3.heap.objs.size + 1) scope.names (cloFrom X.env.cells scope.names [])) fp
  have pt := ht s3 (upd H2 D (.lst [])) s3.heap.objs.size (cellsFrom (s3.heap.objs.size + 1) scope.names (cloFrom X.env.cells scope.names [])) fp
  have pe := he s3 (upd H2 D (.lst [])) s3.heap.objs.size (cellsFrom (s3.heap.objs.size + 1) scope.names (cloFrom X.env.cells scope.names [])) fp
  show codeAny _ _ (.compStart (.ListComp elt [⟨tg, iter, ifs, 0⟩] scope pos) 0 (.ref it) (.ref D) (compEnvC scope (cellsFrom (s3.heap.objs.size + 1) scope.names (cloFrom X.env.cells scope.names [])) s3.heap.objs.size X.env)) (compPost (model X.prog X.w) X.A X.xe use Qf (.ref D) s3.heap.objs.size) { s3 with heap := pushCells (s3.heap.push { cls := .type "dict", data := .dict #[] }) scope.names }
  have nfp : ∀ b ∈ fp, (upd H2 D (.lst [])) b = none := fun b hb => (f3 b hb).1.1
  generalize hce : compEnvC scope (cellsFrom (s3.heap.objs.size + 1) scope.names (cloFrom X.env.cells scope.names [])) s3.heap.objs.size X.env = ce at I4 pg pt pe ⊢
  have cL : ce.locals = s3.heap.objs.size := by subst hce; rfl
  generalize hH3 : upd H2 D (.lst []) = H3 at I3 I4 pg pt pe w0 nfp f3
  generalize hs4 : ({ s3 with heap := pushCells (s3.heap.push { cls := .type "dict", data := .dict #[] }) scope.names } : Shared) = s4 at I4 ⊢
  have st4 : tn 0 s4.heap := T.keep _ _ _ st3 fun b _ o e => by rw [← hs4]; exact pushCells_keeps _ _ _ _ (Heap.get?_push_of_some _ e)
  have stat : ∀ {σ' : St} {H' : Hp} {s' : Shared}, Inv (X.blk s3 H3 scope ce fp) [] σ' H' s' → (∀ b ∈ fp, H' b = none) → ∀ b ∈ fp, FpOk (X.blk s3 H3 scope ce fp) [] H' b := fun {σ' H' s'} I' hn b hb =>
    ⟨hn b hb, (I'.ok.exf b hb).1, I'.ok.exfs b hb, .inl hb, fun x c e => (I'.ok.exf b hb).2 x c e, fun p hp => absurd (show p ∈ ([] : List (Addr × Obj)) ++ [] from hp) (by simp)⟩
  have loop : codeAny (model X.prog X.w) X.A (.compLoop (.ListComp elt [⟨tg, iter, ifs, 0⟩] scope pos) 0 (.ref it) (.ref D) ce) (compPost (model X.prog X.w) X.A X.xe use Qf (.ref D) s3.heap.objs.size) s4 := by
    refine compLoop_any (fun n s' => ∃ i H', Inv (X.blk s3 H3 scope ce fp) [] (wipe σ (own.map (·.2))) H' s' ∧ tn i s'.heap ∧ (∀ b ∈ fp, H' b = none) ∧ W i n H') ?_ m0 ⟨0, H3, I4, st4, nfp, w0⟩
    rintro n s5 ⟨i, H5, I5, st5, n5, w5⟩
    rcases turn i n H5 w5 with ⟨stop, qq⟩ | ⟨go, Nx, hNx, step⟩
    · have td := T.done (X.blk s3 H3 scope ce fp) rfl rfl rfl hc i [] s5 _ H5 (fun _ _ => False) I5 (stat I5 n5) st5 stop
      refine thnF td fun r s6 ⟨hr, I6⟩ => ?_
      subst hr
      -- back in the def's context
      have I7 : Inv X pins σ H5 s6 := I3.call' (ch := fp) I6.os I6.base I6.hok I6.bare fun b hb => ⟨(f3 b hb).1.2.2.2.1, (f3 b hb).1.2.1, (f3 b hb).1.2.2.2.2.1, (f3 b hb).1.2.2.2.2.2⟩
      have nC : H5 s3.heap.objs.size = none := by
        have z : H5 ce.locals = none := I6.free
        rw [cL] at z
        exact z
      obtain ⟨m, hn, _⟩ := I6.loc
      have hn : s6.heap.Ns ce.locals m := hn
      rw [cL] at hn
      exact hRR D s3.heap.objs.size s6 m H5 I7 qq hn (I3.fpOk (Nat.le_refl _) nC)
    · have ti := T.item (X.blk s3 H3 scope ce fp) rfl rfl rfl hc i [] s5 _ H5 (fun _ _ => False) I5 (stat I5 n5) st5 go
      refine thnF ti fun r s6 ⟨u, hr, h6⟩ => ?_
      subst hr
      refine thnF h6 fun _ s7 ⟨x, H7, I7, r7, y7, st7, n7⟩ => ?_
      have I7' := I7.pinned (stat I7 n7) (T.obj _ _ st7)
      refine thnF (pg _ s7 _ H7 x u _ I7' r7 (step x H7 y7)) fun _ s8 ⟨σ8, H8, I8, hw8, q8⟩ => ?_
      refine thnF (pt _ s8 σ8 H8 _ I8 q8) fun b s9 ⟨H9, I9, q9⟩ => ?_
      -- the turn's end
      have fin : ∀ {s' : Shared} {H' : Hp}, Inv (X.blk s3 H3 scope ce fp) ([] ++ pinsAt fp s7.heap) σ8 H' s' → Nx H' → ∃ m, m < n ∧ ∃ i H', Inv (X.blk s3 H3 scope ce fp) [] (wipe σ (own.map (·.2))) H' s' ∧ tn i s'.heap ∧ (∀ b ∈ fp, H' b = none) ∧ W i m H' := fun {s' H'} I' nx => by
        obtain ⟨m', hm, w'⟩ := hNx H' nx
        have pin' : ∀ b ∈ fp, ∀ o, s7.heap.get? b = some o → s'.heap.get? b = some o ∧ H' b = none := fun b hb o e =>
          let z := I'.pin (b, o) (List.mem_append_right _ (List.mem_append_right _ (mem_pinsAt hb e)))
          ⟨z.1, z.2.1⟩
        have hl : (wipe σ (own.map (·.2))).length = σ8.length := by rw [← hw8, wipe_length]
        refine ⟨m', hm, i + 1, H', (I'.unpinned (pins := [])).weak hl (fun j v e => ?_), T.keep _ _ _ st7 fun b hb o e => (pin' b hb o e).1, fun b hb => ?_, w'⟩
        · rw [← hw8] at e
          exact (wipe_some e).1
        · obtain ⟨o, e, _⟩ := T.obj _ _ st7 b hb
          exact (pin' b hb o e).2
      cases b with
      | false =>
        simp only [Bool.false_eq_true, if_false] at q9 ⊢
        exact fin I9 q9
      | true =>
        simp only [if_true] at q9 ⊢
        refine thnF (pe _ s9 σ8 H9 _ I9 q9) fun z s10 ⟨yv, H10, I10, r10, acc, hD10, hz10, nx⟩ => ?_
        exact app_ok (X := X.blk s3 H3 scope ce fp) I10 hD10 hz10 r10 fun s11 I11 => fin I11 nx
  exact codeAny_compStart_list loop (T.self X.A 0 _ _ _ st4 loop)
/-- as a value -/
theorem pe_lc {elt tg iter : Expr} {ifs : List Expr} {scope : Scope} {own : List (Str × Nat)} {pos : Pos} {wi : TI} {g : TG} {tt : TT} {te : TE} (hc : X.calm = true) (hN : X.N.Nodup) (hi : PI X tg iter wi) (ok : BlkOk X.N X.env.scope scope own)
    (hg : ∀ (s : Shared) (H : Hp) (C : Addr) (cl : List (Str × Addr)) (fp : List Addr), PG (X.blk s H scope (compEnvC scope cl C X.env) fp) tg g) (ht : ∀ (s : Shared) (H : Hp) (C : Addr) (cl : List (Str × Addr)) (fp : List Addr), PTs (X.blk s H scope (compEnvC scope cl C X.env) fp) ifs tt)
    (he : ∀ (s : Shared) (H : Hp) (C : Addr) (cl : List (Str × Addr)) (fp : List Addr), PE (X.blk s H scope (compEnvC scope cl C X.env) fp) elt te) (hs : ∀ x, foldedSetIterable iter X.env x = pure x := by intro _; rfl) :
    PE X (.ListComp elt [⟨tg, iter, ifs, 0⟩] scope pos) (tLc wi g tt te (own.map (·.2))) := by
  intro pins s σ H Q I h
  rw [eval_ListComp]
  refine lc_core hc hN I hi ok hg ht he hs h fun D C s' m H' I' q hn f => ⟨m, hn, fun h'' sb => ?_⟩
  obtain ⟨f0, f1, f2, f3, f4, f5⟩ := f
  exact ⟨.ref D, H', I'.turned (t' := s'.toks) (fun b o hb e => (sb.2 b hb).trans e) f0 f1 f3 f4 f5, rfl, q⟩
/-- name = [..] on one line, the name a local -/
theorem ps_setLc {i : Nat} {y : Str} {py : Pos} {elt tg iter : Expr} {ifs : List Expr} {scope : Scope} {own : List (Str × Nat)} {pos spos : Pos} {wi : TI} {g : TG} {tt : TT} {te : TE} (hc : X.calm = true) (hN : X.N.Nodup) (hy : X.N[i]? = some y) (hyl : X.env.scope.names.lookup y = some .local)
    (hsw : swapsWith (.ListComp elt [⟨tg, iter, ifs, 0⟩] scope pos) (some (.Name y py)) spos.line X.env = pure true) (hi : PI X tg iter wi) (ok : BlkOk X.N X.env.scope scope own)
    (hg : ∀ (s : Shared) (H : Hp) (C : Addr) (cl : List (Str × Addr)) (fp : List Addr), PG (X.blk s H scope (compEnvC scope cl C X.env) fp) tg g) (ht : ∀ (s : Shared) (H : Hp) (C : Addr) (cl : List (Str × Addr)) (fp : List Addr), PTs (X.blk s H scope (compEnvC scope cl C X.env) fp) ifs tt)
    (he : ∀ (s : Shared) (H : Hp) (C : Addr) (cl : List (Str × Addr)) (fp : List Addr), PE (X.blk s H scope (compEnvC scope cl C X.env) fp) elt te) (hs : ∀ x, foldedSetIterable iter X.env x = pure x := by intro _; rfl) :
    PS X (.Assign [.Name y py] (.ListComp elt [⟨tg, iter, ifs, 0⟩] scope pos) spos) (tAsg (tLc wi g tt te (own.map (·.2))) (gName i)) := by
  intro pins s σ H D I h
  rw [exec_Assign_Name_used _ _ _ _ hsw]
  refine wpAny_bind (wpAny_standAt (wpAny_bind ?_))
  show wpAny _ X.A (do let _ ← comprehension (.ListComp elt [⟨tg, iter, ifs, 0⟩] scope pos) scope X.env (firstIterPos [⟨tg, iter, ifs, 0⟩] pos) (newList []) false (eval iter X.env) (some (assign (.Name y py) X.env))) _ _ s
  have h : tLc wi g tt te (own.map (·.2)) σ H (fun x H1 => gName i x σ H1 D.nx) := h
  refine wpAny_bind (thn (lc_core (Qf := fun _ s' => SP X pins D .next s') hc hN I hi ok hg ht he hs h fun L C s' m H' I' q hn f => ?_) fun _ s' hq => wpAny_pure (wpAny_pure hq))
  show wpAny _ _ (assign (.Name y py) X.env (.ref L)) _ _ _
  refine wpAny_assign_Name (store_ok2 (v := V.ref L) I' hN hy (.inl hyl) rfl (fun s2 I2 ⟨a, sb, ha⟩ => ?_) (.inr hyl))
  obtain ⟨f0, f1, f2, f3, f4, f5⟩ := f
  have haC : C ≠ a := by
    rcases ha with z | z
    · rw [z]; exact f1
    · exact fun e => f4 y a z e.symm
  refine ⟨m, hn.sameBut sb haC, fun h3 sb3 => ?_⟩
  exact ⟨_, H', I2.turned (t' := s2.toks) (fun b o hb e => (sb3.2 b hb).trans e) f0 f1 f3 f4 f5, q⟩
theorem sw_true {elt : Expr} {gs : List Comprehension} {scope : Scope} {pos py : Pos} {y : Str} {l : Nat} {env : Env} (hk : env.scope.kind = .function) (hy : env.scope.names.lookup y = some .local) (hl : (py.line == pos.line) = true)
    (ha : (scope.names.any fun (n, k) => n == y && (k == .local || k == .cell)) = false) : swapsWith (.ListComp elt gs scope pos) (some (.Name y py)) l env = pure true := by
  have ky : env.kindOf y = some .local := hy
  have hb : env.blockKind = .function := by unfold Env.blockKind; rw [hk]; rfl
  unfold swapsWith
  simp only [hb, ky, ha, Expr.pos, hl]
  rfl
end

/-! ### the forms one uses -/
/-- over a list that the block leaves as it is -/
theorem lc_list {K : PySem.W.Frag} {a : Addr} {xs : List V} {g : TG} {tt : TT} {te : TE} {vs : List Nat} {σ : St} {H1 : Hp} {D : Addr} {Qd : Hp → Prop} (Pv : Nat → Hp → Prop) (h0 : Pv 0 (upd H1 D (.lst []))) (hl : ∀ i H, i ≤ xs.length → Pv i H → SqL K H a xs)
    (hs : ∀ i x H, xs[i]? = some x → Pv i H → g x (wipe σ vs) H fun σ2 H2 => wipe σ2 vs = wipe σ vs ∧ tt σ2 H2 fun b H3 =>
      if b = true then te σ2 H3 fun y H4 => ∃ acc, H4 D = some (.lst acc) ∧ acc.length < sizeLine ∧ Pv (i + 1) (upd H4 D (.lst (acc ++ [y]))) else Pv (i + 1) H3) (hd : ∀ H, Pv xs.length H → Qd H) :
    ∃ W : Nat → Nat → Hp → Prop, (∃ m, W 0 m (upd H1 D (.lst []))) ∧ ∀ i m H, W i m H →
      ((Itl K a).stop i H ∧ Qd H) ∨ ((Itl K a).go i H ∧ ∃ Nx : Hp → Prop, (∀ H', Nx H' → ∃ m', m' < m ∧ W (i + 1) m' H') ∧ ∀ x H', (Itl K a).yld i H x H' → g x (wipe σ vs) H' fun σ2 H2 => wipe σ2 vs = wipe σ vs ∧ tt σ2 H2 fun b H3 =>
        if b = true then te σ2 H3 fun y H4 => ∃ acc, H4 D = some (.lst acc) ∧ acc.length < sizeLine ∧ Nx (upd H4 D (.lst (acc ++ [y]))) else Nx H3) := by
  refine ⟨fun i m H => m = xs.length - i ∧ i ≤ xs.length ∧ Pv i H, ⟨xs.length, by simp, Nat.zero_le _, h0⟩, ?_⟩
  rintro i m H ⟨rfl, hi, p⟩
  have q := hl i H hi p
  by_cases hlt : i < xs.length
  · refine .inr ⟨⟨xs, xs[i], q, by simp [hlt]⟩, Pv (i + 1), fun H' p' => ⟨xs.length - (i + 1), by omega, rfl, hlt, p'⟩, fun x H' y => ?_⟩
    obtain ⟨e, y⟩ := y
    subst e
    exact hs i x _ (y xs q) p
  · have e : i = xs.length := by omega
    subst e
    exact .inl ⟨⟨xs, q, Nat.le_refl _⟩, hd H p⟩
noncomputable def blkC (N : List Str) (sc scope : Scope) (own : List (Str × Nat)) : Bool :=
  (match scope.kind with | .function => true | _ => false) && (scope.names.all fun y => decide (scope.names.lookup y.1 = some y.2)) && (own.all fun p => decide (N[p.2]? = some p.1)) &&
    (scope.names.all fun y => match y.2 with
      | .free => (match sc.names.lookup y.1 with | some .cell => true | some .free => true | _ => false)
      | .local => decide (y.1 ∈ own.map (·.1)) || decide (y.1 ∉ N)
      | .cell => decide (y.1 ∈ own.map (·.1)) || decide (y.1 ∉ N)
      | _ => true)
theorem blkOk_by {N : List Str} {sc scope : Scope} {own : List (Str × Nat)} (h : blkC N sc scope own = true) : BlkOk N sc scope own := by
  unfold blkC at h
  simp only [Bool.and_eq_true, List.all_eq_true, decide_eq_true_eq] at h
  obtain ⟨⟨⟨h1, h2⟩, h3⟩, h4⟩ := h
  refine ⟨?_, h2, h3, fun y hy e => ?_, fun y hy e => ?_⟩
  · split at h1
    · assumption
    · cases h1
  · have q := h4 y hy
    simp only [e] at q
    split at q <;> first | exact .inl (by assumption) | exact .inr (by assumption) | cases q
  · have q := h4 y hy
    rcases e with e | e <;> (simp only [e, Bool.or_eq_true, decide_eq_true_eq] at q; exact q)
end L2

namespace L2
open PySem PySem.Spec PyProof.Rows


section
variable {prog : Program} {w : World} {A : Around} {R : Result → Shared → Prop} {s : Shared} {elt t0 i0 t1 i1 : Expr} {ifs0 ifs1 : List Expr} {scope : Scope} {pos : Pos} {it acc : Value} {env : Env}
end

section
variable {X : Cx}
end
end L2

namespace L2
open PySem PySem.Spec PyProof.Rows

/-! ### lists of pairs as tables -/
section
variable {κ : Type} [DecidableEq κ]



end


/-! ### a tracked dict, its keys ints and texts or tuples of these -/


section
variable {P : Program} {w : World} {H : Hp} {h : Heap} {a : Addr}
end



section
variable {X : Cx} {pins : List (Addr × Obj)} {σ : St} {H : Hp} {s : Shared} {a : Addr} {y v : V} {u r : Value} {o : Option V} {A : Around} {E : Value → Shared → Prop}


end

section
variable {X : Cx} {pins : List (Addr × Obj)} {σ : St} {H : Hp} {s : Shared} {a : Addr} {kvs : List (Key × V)} {k : Key} {u : Value} {A : Around} {E : Value → Shared → Prop}
end


/-! ### readings and rules -/



section
variable {X : Cx} {o i e value : Expr} {pos pos' tpos : Pos} {td ty tv : TE}
end


/-! ### displays -/
section
variable {X : Cx} {pos : Pos}
end




/-! ### methods -/


section
variable {X : Cx} {pins : List (Addr × Obj)} {σ : St} {H : Hp} {s : Shared} {a : Addr} {y d : V} {u r : Value} {o : Option V} {A : Around} {E : Value → Shared → Prop}
end

section
variable {X : Cx} {o e f : Expr} {apos cpos : Pos} {td ty tx : TE}
end

/-! ### dict(d): a copy -/
section
variable {X : Cx} {pins : List (Addr × Obj)} {σ : St} {H : Hp} {s : Shared} {a : Addr} {kvs : List (Key × V)} {A : Around} {E : Value → Shared → Prop}
end


section
variable {X : Cx} {pins : List (Addr × Obj)} {σ : St} {H : Hp} {s : Shared} {a : Addr} {y : V} {u : Value} {A : Around} {E : Value → Shared → Prop}
end
end L2

namespace L2
open PySem PySem.Spec PyProof.Rows


section
variable {prog : Program} {w : World} {A : Around} {E : Value → Shared → Prop}


end

section
variable {X : Cx}
end
end L2

namespace L2
open PySem PySem.Spec PyProof.Rows


section
variable {X : Cx} {pins : List (Addr × Obj)} {σ : St} {H : Hp} {s : Shared} {h' : Heap}
/-- .. and one new object is laid -/
theorem Inv.turnedNew {t' : Nat} {ch : List Addr} {T : Addr} {ob : HO} (I : Inv X pins σ H s) (k : ∀ b o, b ∉ ch → s.heap.get? b = some o → h'.get? b = some o) (hf : ∀ b ∈ ch, FpOk X pins H b) (hT : s.heap.objs.size ≤ T)
    (new : ObjOk X.prog X.w (upd H T ob) h' T ob) : Inv X pins σ (upd H T ob) { s with heap := h', toks := t' } := by
  have hn : H T = none := I.hok.fresh hT
  have nit : ∀ b u, H b = some u → b ∉ ch := fun b u e z => by
    have q := (hf b z).1
    rw [q] at e; cases e
  refine I.step (g' := s.gens) (d' := s.drawn) (ch := ch) (fun b hb => ⟨(hf b hb).2.2.2.1, (hf b hb).2.1, (hf b hb).2.2.2.2.1, (hf b hb).2.2.2.2.2⟩) (fun b o _ _ hc e _ => k b o hc e) (fun b o _ _ hc e _ => ⟨o.slots, k b o hc e⟩)
    (fun b o _ e n => ?_) (fun b o hc e => ⟨o, k b o hc e⟩) (fun b xs e => ?_) (fun b o u e => ?_) (fun b ps e => ⟨#[], ?_⟩) (fun m hm => ?_) (fun b u e => ?_) I.bare
  · rw [upd_ne (Nat.ne_of_lt (Nat.lt_of_lt_of_le (Heap.lt_size e) hT))]; exact n
  · rw [upd_ne (ne_of_none e hn)]; exact e
  · rw [upd_ne (ne_of_none e hn)]; exact e
  · rw [upd_ne (ne_of_none e hn), e]; simp
  · obtain ⟨o, es, ep, ho, r⟩ := hm
    exact ⟨o, es, ep, k _ o (fun z => (hf _ z).2.1 rfl) ho, r⟩
  · by_cases hb : b = T
    · subst hb
      rw [upd_same] at e
      cases e
      exact new
    · rw [upd_ne hb] at e
      refine (I.hok b u e).stay (fun c v hc q => k c v ?_ q) (fun c q => by rw [upd_ne (ne_of_none q hn)]; exact q) fun c xs q => by rw [upd_ne (ne_of_none q hn)]; exact q
      rcases hc with z | z
      · rw [z]; exact nit b u e
      · exact nit c _ z

/-! ### locking a thing while a statement runs -/
end
section
variable {X : Cx}

/-! ### one iterator just laid -/
theorem pi_one {tg : Expr} {pins : List (Addr × Obj)} {σ : St} {H : Hp} {s : Shared} {R : It → Hp → Prop} {J : It} {tn : Nat → Heap → Prop} {tk : Nat} (I : Inv X pins σ H s) (o : Obj)
    (T : Turn X.prog X.w X.K tg J [s.heap.objs.size] s.heap.objs.size tn) (st : tn 0 (s.heap.push o)) (q : R J H) : PIE X pins σ tg R (.ref s.heap.objs.size) { s with heap := s.heap.push o, toks := tk } := by
  refine ⟨s.heap.objs.size, [s.heap.objs.size], tn, J, H, rfl, I.kept fun b ob e => Heap.get?_push_of_some _ e, T, st, fun b hb => ?_, q⟩
  have e : b = s.heap.objs.size := by simpa using hb
  subst e
  exact I.fpOk (Nat.le_refl _) (I.hok.fresh (Nat.le_refl _))
end

/-! ### range with a step -/
/-- lo, lo + c, .. (n of them) -/
noncomputable def Itc (lo c : Int) (n : Nat) : It := ⟨fun i _ => i < n, fun i H x H' => H' = H ∧ x = .int (lo + (i : Nat) * c), fun i _ => n ≤ i⟩
theorem turn_rangeC {P : Program} {w : World} {K : PySem.W.Frag} {tg : Expr} (it : Addr) (lo c : Int) (n : Nat) : Turn P w K tg (Itc lo c n) [it] it (fun i h => IsRangeIter h it (lo + (i : Nat) * c) ((n : Int) - (i : Nat)) c) where
  mem := by simp
  obj := fun i h st b hb => by
    have e : b = it := by simpa using hb
    subst e
    exact ⟨_, st, fun v z => nomatch z⟩
  keep := fun i h h' st k => k it (by simp) _ st
  item := by
    intro X hP hw hK hc i pins s σ H E I hf st hg
    subst hP hw hK
    obtain ⟨f0, f1, f2, f3, f4, f5⟩ := hf it (by simp)
    have W := Walks.range (prog := X.prog) (w := X.w) (I.ok.hd hc) it lo c n
    refine W.item i s _ _ hg st fun v h' tk hv st' kk => ?_
    obtain ⟨t, rfl⟩ := hv
    have I1 : Inv X pins σ H { s with heap := h', toks := tk } := I.turned (fun b o hb e => kk b o (by simpa using hb) e) f0 f1 f3 f4 f5
    exact ⟨_, rfl, go_of (s := { s with heap := h', toks := tk }) (n := "range_iterator") st' rfl rfl (by decide) ⟨.int (lo + (i : Nat) * c), H, I1, ⟨t, rfl⟩, ⟨rfl, rfl⟩, st', fun b hb => (hf b hb).1⟩⟩
  done := by
    intro X hP hw hK hc i pins s σ H E I hf st hg
    subst hP hw hK
    obtain ⟨f0, f1, f2, f3, f4, f5⟩ := hf it (by simp)
    exact wpAny_pyNext_range_end (I.ok.hd hc) st (by have : n ≤ i := hg; omega) fun h' eb => ⟨rfl, I.turned (t' := s.toks) (fun b o hb e => eb b o hb e) f0 f1 f3 f4 f5⟩
  self := fun A i s Q E st h => wpAny_pyIter_rangeiter st h
/-- range(i, j, c): small bounds, n items -/
noncomputable def RgC (i j c : Int) (n : Nat) : Prop := c ≠ 0 ∧ c.natAbs < 1073741824 ∧ Builtin.Range.small i j c = true ∧ Builtin.Range.rangeSize i j c = n
theorem RgC.neg {i j : Int} (ha : -(2 ^ 62) ≤ i) (ha' : i < 2 ^ 62) (hb : -(2 ^ 62) ≤ j) (hb' : j < 2 ^ 62) : RgC i j (-1) (i - j).toNat :=
  ⟨by decide, by decide, PySem.W.small_down ha ha' hb hb', PySem.W.rangeSize_downNat i j⟩
noncomputable def iRng3 (ta : TA) : TI := fun σ H R => ta σ H fun vs H1 => ∃ (i j c : Int) (n : Nat), vs = [.int i, .int j, .int c] ∧ RgC i j c n ∧ R (Itc i c n) H1
section
variable {X : Cx} {tg : Expr}
theorem pi_range3 {a b c : Expr} {ta : TA} {p pos : Pos} (hg : Gl X "range") (hm : X.mg "range" = none) (ha : PA X [a, b, c] ta)
    (hs : starEach [a, b, c] X.env = (false, eval a X.env) :: starEach [b, c] X.env := by rfl) (hpl : (backTo pos (starEach [b, c] X.env)).any (·.1) = false := by rfl) :
    PI X tg (.Call (.Name "range" p) [a, b, c] [] pos) (iRng3 ta) := by
  intro pins s σ H R I h
  refine Call_ (ld_blt I hg hm boot_range (PyProof.Rows.callWith_type1 (thn (ha pos pins s σ H _ I h) fun us s1 ⟨vs, H1, I1, r1, q1⟩ => ?_) hs hpl))
  obtain ⟨i, j, k, n, e, ⟨c0, c1, c2, c3⟩, q⟩ := q1
  subst e
  cases r1 with
  | cons r rr =>
    cases rr with
    | cons r' rr =>
      cases rr with
      | cons r'' rr =>
        cases rr
        obtain ⟨t, rfl⟩ := r
        obtain ⟨t', rfl⟩ := r'
        obtain ⟨t'', rfl⟩ := r''
        refine call_range_3 c0 ?_ (.inl (PyProof.noPylong_small c1))
        refine wpAny_pyIter_range (IsRange.new ..) c2 ?_
        have I2 : Inv X pins σ H1 { s1 with heap := s1.heap.push { cls := .type "range", data := .fields #[.int i t, .int j t', .int k t''] } } := I1.kept (t' := s1.toks) fun b o e => Heap.get?_push_of_some _ e
        refine pi_one (tk := s1.toks) I2 _ (turn_rangeC _ i k n) ?_ q
        have e1 : i + ((0 : Nat) : Int) * k = i := by simp
        have e2 : (n : Int) - ((0 : Nat) : Int) = Builtin.Range.rangeSize i j k := by rw [c3]; simp
        show IsRangeIter _ _ (i + ((0 : Nat) : Int) * k) ((n : Int) - ((0 : Nat) : Int)) k
        rw [e1, e2]
        exact Heap.get?_push_size _ rfl
end
/-- the turns of a step range, for the for loop -/
theorem for_rangeC {lo c : Int} {n : Nat} {g : TG} {tb : TS} {D : Ends} {σ : St} {H : Hp} (Pv : Nat → St → Hp → Prop) (h0 : Pv 0 σ H)
    (hs : ∀ i σ H, i < n → Pv i σ H → g (.int (lo + (i : Nat) * c)) σ H fun σ2 H2 => tb { D with nx := Pv (i + 1), ct := Pv (i + 1), bk := D.nx } σ2 H2) (hd : ∀ σ H, Pv n σ H → D.nx σ H) :
    ∃ W : Nat → Nat → St → Hp → Prop, (∃ m, W 0 m σ H) ∧ ∀ i m σ H, W i m σ H →
      ((Itc lo c n).stop i H ∧ D.nx σ H) ∨ ((Itc lo c n).go i H ∧ ∃ N : St → Hp → Prop, (∀ σ' H', N σ' H' → ∃ m', m' < m ∧ W (i + 1) m' σ' H') ∧ ∀ x H', (Itc lo c n).yld i H x H' → g x σ H' fun σ2 H2 => tb { D with nx := N, ct := N, bk := D.nx } σ2 H2) := by
  refine ⟨fun i m σ H => m = n - i ∧ i ≤ n ∧ Pv i σ H, ⟨n, by simp, Nat.zero_le _, h0⟩, ?_⟩
  rintro i m σ H ⟨rfl, hi, p⟩
  by_cases hlt : i < n
  · refine .inr ⟨hlt, Pv (i + 1), fun σ' H' p' => ⟨n - (i + 1), by omega, rfl, hlt, p'⟩, fun x H' y => ?_⟩
    obtain ⟨e, y⟩ := y
    subst e y
    exact hs i σ _ hlt p
  · have e : i = n := by omega
    subst e
    exact .inl ⟨Nat.le_refl _, hd σ H p⟩

/-! ### reversed(list) -/
section
variable {X : Cx} {tg : Expr}
end

/-! ### a str -/

/-! ### a dict's keys: any dict's entries -/
section
variable {prog : Program} {w : World} {A : Around} {E : Value → Shared → Prop} {s : Shared}
end

/-! ### a locked dict -/
section
variable {X : Cx} {pins : List (Addr × Obj)} {σ : St} {H : Hp} {s : Shared} {d : Addr} {o : Obj}
end

section
variable {P : Program} {w : World} {K : PySem.W.Frag} {tg : Expr} {d : Addr} {o : Obj} {es : Array DictEntry} {ep : Nat}
end

/-! ### for k in d, d.keys(), d.values(), d.items() -/
section
variable {X : Cx} {tg e : Expr} {td : TE} {apos cpos : Pos}
end

/-! ### enumerate(list) -/
/-- the list at a as it stands at each turn, each item in a new pair -/
noncomputable def Ite (K : PySem.W.Frag) (a : Addr) : It :=
  ⟨fun i H => ∃ (xs : List V) (x : V), SqL K H a xs ∧ xs[i]? = some x, fun i H v H' => ∃ T x, v = .ref T ∧ H T = none ∧ H' = upd H T (.tup [.int (i : Nat), x]) ∧ ∀ xs, SqL K H a xs → xs[i]? = some x, fun i H => ∃ xs : List V, SqL K H a xs ∧ xs.length ≤ i⟩
theorem turn_enum {P : Program} {w : World} {K : PySem.W.Frag} {elts : List Expr} {kk : Nat} {tpos : Pos} (a e it : Addr) :
    Turn P w K (.Tuple elts kk tpos) (Ite K a) [e, it] e (fun i h => (∃ old, IsEnum h e it ((i : Nat) : Int) old) ∧ h.IsListIter it a i ∧ e ≠ it) where
  mem := by simp
  obj := fun i h st b hb => by
    obtain ⟨⟨old, he⟩, ⟨o, ho, hc, hd⟩, _⟩ := st
    have e' : b = e ∨ b = it := by simpa using hb
    rcases e' with z | z
    · rw [z]; exact ⟨_, he, fun v q => nomatch q⟩
    · rw [z]; exact ⟨o, ho, fun v q => by rw [hd] at q; cases q⟩
  keep := fun i h h' st k => let ⟨⟨old, he⟩, hi, hne⟩ := st; ⟨⟨old, k e (by simp) _ he⟩, hi.at fun o q => k it (by simp) o q, hne⟩
  item := by
    intro X hP hw hK hc i pins s σ H E I hf st hg
    subst hP hw hK
    obtain ⟨⟨old, he⟩, hit, hne⟩ := st
    obtain ⟨xs, x, hq, hx⟩ := hg
    obtain ⟨its, rv, p, hz⟩ := I.list hq
    obtain ⟨u, hu, ru⟩ := rv.get hx
    have hel : e < s.heap.objs.size := Heap.lt_size he
    have hil : it < s.heap.objs.size := by obtain ⟨_, q, _⟩ := hit; exact Heap.lt_size q
    refine wpAny_pyNext_enum_item he hit p.isList (x := u) (by simpa using hu) hne fun h' ho hit' hT hsz hk => ?_
    refine ⟨_, rfl, wpAny_letOwnedTupleGo_enum (s := { s with heap := h', toks := s.toks + 1 }) ho fun h'' he' sb => ?_⟩
    have hT2 : h''.get? s.heap.objs.size = some { cls := .type "tuple", data := .seq #[.int i s.toks, u] } := (sb.2 _ (Nat.ne_of_gt hel)).trans hT
    have new : ObjOk X.prog X.w (upd H s.heap.objs.size (.tup [.int (i : Nat), x])) h'' s.heap.objs.size (.tup [.int (i : Nat), x]) :=
      ⟨by show 2 ≤ sizeLine; decide, [.int i s.toks, u], .cons ⟨_, rfl⟩ (.cons ru .nil), ⟨_, hT2, rfl, _, rfl⟩⟩
    have I1 : Inv X pins σ (upd H s.heap.objs.size (.tup [.int (i : Nat), x])) { s with heap := h'', toks := s.toks + 1 } :=
      I.turnedNew (ch := [e, it]) (fun b ob hb q => (sb.2 b (fun z => hb (by simp [z]))).trans (hk b ob (fun z => hb (by simp [z])) (fun z => hb (by simp [z])) q)) hf (Nat.le_refl _) new
    refine ⟨.ref s.heap.objs.size, _, I1, rfl, ⟨_, x, rfl, I.hok.fresh (Nat.le_refl _), rfl, fun ys hy => by rw [I.list_inj hy hq]; exact hx⟩, ⟨⟨u, ?_⟩, hit'.at fun o q => (sb.2 it (Ne.symm hne)).trans q, hne⟩, fun b hb => ?_⟩
    · have e1 : ((i + 1 : Nat) : Int) = (i : Int) + 1 := by omega
      rw [e1]; exact he'
    · have hb' : b < s.heap.objs.size := by
        have e' : b = e ∨ b = it := by simpa using hb
        rcases e' with z | z
        · rw [z]; exact hel
        · rw [z]; exact hil
      rw [upd_ne (Nat.ne_of_lt hb')]
      exact (hf b hb).1
  done := by
    intro X hP hw hK hc i pins s σ H E I hf st hg
    subst hP hw hK
    obtain ⟨⟨old, he⟩, hit, hne⟩ := st
    obtain ⟨xs, hq, hx⟩ := hg
    obtain ⟨its, rv, p, hz⟩ := I.list hq
    obtain ⟨f0, f1, f2, f3, f4, f5⟩ := hf it (by simp)
    have hl := rv.length
    exact wpAny_pyNext_enum_end (I.ok.hd hc) he hit p.isList (by simp; omega) fun h' eb => ⟨rfl, I.turned (t' := s.toks) (fun b o hb q => eb b o hb q) f0 f1 f3 f4 f5⟩
  self := fun A i s Q E st h => let ⟨⟨_, he⟩, _⟩ := st; wpAny_pyIter_enum he h
noncomputable def iEnum (K : PySem.W.Frag) (ta : TA) : TI := fun σ H R => ta σ H fun vs H1 => ∃ a xs, vs = [.ref a] ∧ SqL K H1 a xs ∧ R (Ite K a) H1
theorem pi_enum {X : Cx} {e : Expr} {ta : TA} {p pos tpos : Pos} {elts : List Expr} {kk : Nat} (hg : Gl X "enumerate") (hm : X.mg "enumerate" = none) (ha : PA X [e] ta) (hs : starEach [e] X.env = [(false, eval e X.env)] := by rfl) :
    PI X (.Tuple elts kk tpos) (.Call (.Name "enumerate" p) [e] [] pos) (iEnum X.K ta) := by
  intro pins s σ H R I h
  refine Call_ (ld_blt I hg hm boot_enumerate (PyProof.Rows.callWith_type1 (thn (ha pos pins s σ H _ I h) fun us s1 ⟨vs, H1, I1, r1, q1⟩ => ?_) hs rfl))
  obtain ⟨a, xs, ex, hq, q⟩ := q1
  subst ex
  cases r1 with
  | cons r rr =>
    cases rr
    cases r
    obtain ⟨its, rv, p', hz⟩ := I1.list hq
    refine call_enumerate_list p'.isList fun h' he hit hsz hk => wpAny_pyIter_enum he ?_
    have I2 : Inv X pins σ H1 { s1 with heap := h' } := I1.kept (t' := s1.toks) hk
    refine ⟨s1.heap.objs.size + 1, [s1.heap.objs.size + 1, s1.heap.objs.size], _, _, H1, rfl, I2, turn_enum a (s1.heap.objs.size + 1) s1.heap.objs.size, ⟨⟨.none, he⟩, hit, Nat.succ_ne_self _⟩, fun b hb => ?_, q⟩
    have e' : b = s1.heap.objs.size + 1 ∨ b = s1.heap.objs.size := by simpa using hb
    have hle : s1.heap.objs.size ≤ b := by
      rcases e' with z | z
      · rw [z]; exact Nat.le_add_right _ _
      · rw [z]; exact Nat.le_refl _
    exact I1.fpOk hle (I1.hok.fresh hle)
/-! ### zip(list, list) -/
end L2

section 
namespace Bits
open PySem PyProof.Rows








end Bits
end 

section 
namespace TL
open PySem PySem.Builtin PySem.Builtin.Str PySem.StrLaws


/-! ### the list functions -/




/-! ### the model's split and partition are these -/




/-! ### computing spl and par -/


/-! ### digits -/

/-! ### words: x.split() -/
end TL
end 

namespace L2
open PySem PySem.Spec PyProof.Rows




section
variable {X : Cx} {pins : List (Addr × Obj)} {σ : St} {H : Hp} {s : Shared} {Q : VK}
end

section
variable {X : Cx}





/-! ### of a text alone -/

/-! ### of a text and a text -/

end

section
variable {X : Cx} {o e : Expr} {to te : TE}

end
end L2

namespace L2
open PySem PySem.Spec PyProof.Rows

section
variable {X : Cx}
end

/-! ### slices of a text -/


end L2

namespace Att
open PySem PySem.W PySem.Calls PyProof.Rows

/-! ### the script -/
theorem ints_of_wellAll {P : Params} {h : Heap} : ∀ (ns : List Int) (vs : List Value), WellAll P h vs (ns.map WData.int) → IntsAre vs ns := by
  intro ns
  induction ns with
  | nil =>
    intro vs w
    rw [List.map_nil] at w
    cases w
    exact .nil
  | cons n ns ih =>
    intro vs w
    rw [List.map_cons] at w
    cases w with
    | cons a b =>
      cases a
      exact .cons _ _ (ih _ b)



/-! ### the attachment: holds_open's last premise (the goal 'hc' behind k_head) from a wpAny of the law's body -/



/-! ### rules over ANY heap (no ledger) from facts about the written part K: the library's own take a ledger (News) for what they write -/
section
variable {prog : Program} {w : World} {A : Around} {E : Value → Shared → Prop} {s : Shared} {K : Frag}





/-! the whole heap as the ledger: makes every rule that writes through a ledger a rule over any heap -/

end
end Att

namespace L2
open PySem PySem.Spec PyProof.Rows

theorem vals_ints : ∀ {vs : List Value} {ns : List Int}, IntsAre vs ns → Vals (ns.map V.int) vs
  | _, _, .nil => .nil
  | _, _, .cons n t h => .cons ⟨t, rfl⟩ (vals_ints h)

/-- nothing is tracked but the script, known to the object (or it is an object of the module) -/
noncomputable def Only (H : Hp) : Prop := ∀ b, H b = none ∨ ∃ o xs, H b = some (.frz o (.lst xs))

end L2

namespace L2
open PySem PySem.Spec PyProof.Rows


end L2

/- THE LAST THEOREM (shape; LID, My.* are yours):
   My.Adr: a structure of the addresses that your layer names (classes, functions); My.Txt K t: a structure (Prop) of the equations over K;
   My.txt_mk : {K} {implicit addresses ..} (e1 : nsIn K mainGlobals "law" = some (some (.ref f))) (e2 : K.lookup f = some ⟨oc, od, .func (fnOf "law" "law" params body scope dV kV doc pm an cdv ct), sl⟩) (e3 : codeIn K cdv "law" = true) .. : ∃ t, My.Txt K t

set_option maxRecDepth 100000 in
set_option maxHeartbeats 0 in
theorem PySem.Challenge.cw_LID_holds : PySem.Challenge.rw_LID.Holds := by
  w_on; o_law; k_head; (case hw => w_witness2)
  k_fill
  refine L2.walk_of (l := PySem.Challenge.rw_LID) (n := 63) (k := 40) (x := "script") (CX := fun w => ..) (sp := fun _ => My.sp_law) rfl (by decide) rfl ⟨rfl, by decide, by decide⟩ (fun w h Y => PySem.W.kIn_of Y) ?F ?S ?C
  case F =>
    intro w mg fa h KX G hmg
    have T : ∃ t, My.Txt (L2.KOf KX) t := by
      dsimp only [L2.KOf]                          -- K must stand as «<heap const> w.params» for k_is
      refine' My.txt_mk ?e1 ?e2 ?e3 ..
      (case e1 => PySem.W.k_is)                    -- in the order: a name -> its address -> its object -> its parts
      (case e2 => PySem.W.k_is)
      ..
    obtain ⟨t, T⟩ := T
    have e0 := hmg.symm.trans (PySem.W.mg_of KX G T.law)
    cases e0                                       -- fa is the law's own address
    exact ⟨_, fun s u => .of_eq rfl, fun base kb nb => My.law_fn T kb nb⟩     -- if «.of_eq rfl» comes too early: refine' ⟨_, ?b, fun base kb nb => My.law_fn T kb nb⟩; exact fun s u => .of_eq rfl
  case S => exact fun w H a ns hl hO hS => ..
  case C => exact ..
(the tactic k_is has no namespace: write k_is) -/

/-! SHORT WORDS over the layer: a def of the text, its body, what a loop and a test want. -/
namespace L2
open PySem PySem.Spec PyProof.Rows

/-! ### the text by places -/
/-- the j-th statement of a class's body -/
noncomputable def inClass (s : Stmt) (j : Nat) : Stmt := match s with
  | .ClassDef _ _ _ body _ _ _ _ _ _ _ => body.getD j (.Pass ⟨0, 0, 0, 0⟩)
  | _ => .Pass ⟨0, 0, 0, 0⟩
noncomputable def defArgs (s : Stmt) : Arguments := match s with
  | .FunctionDef _ a _ _ _ _ _ _ _ _ => a
  | _ => { posonlyargs := [], args := [], vararg := none, kwonlyargs := [], kw_defaults := [], kwarg := none, defaults := [] }
noncomputable def defBody (s : Stmt) : List Stmt := match s with
  | .FunctionDef _ _ b _ _ _ _ _ _ _ => b
  | _ => []
noncomputable def defScope (s : Stmt) : Scope := match s with
  | .FunctionDef _ _ _ _ _ _ sc _ _ _ => sc
  | _ => { kind := .function, names := [], isGenerator := false, isCoroutine := false }

/-! ### no exception leaves a def -/
noncomputable abbrev CX0 : CXT := fun _ _ _ _ _ _ => False
noncomputable abbrev E0 : XK := fun _ _ _ => False
theorem pass0 {X : Cx} : Passes CX0 X E0 := fun _ _ _ _ _ _ _ h => h.elim

/-! ### a def (or method) of the text as it stands behind the top -/
structure Fun (K : PySem.W.Frag) (x qual : Str) (st : Stmt) (f : Addr) (fd : FuncData) : Prop where
  ex : ∃ (oc : Value) (od : Option Addr) (kV doc pm : Value) (an : Option Addr) (cdv ct : Value) (osl : Array (Option Value)),
    fd = PySem.W.fnOf x qual (defArgs st) (defBody st) (defScope st) .none kV doc pm an cdv ct ∧ K.lookup f = some ⟨oc, od, .func fd, osl⟩ ∧ PySem.W.codeIn K cdv qual = true
  kp : PySem.W.keepIn K (.ref f) = true
section
variable {P : Program} {w : World} {K : PySem.W.Frag} {mg : Str → Option Value} {base : Heap}
/-- THE RULE for a def: its body as a term of rules, and the reading of that term -/
theorem Fun.ok {x qual : Str} {st : Stmt} {f : Addr} {fd : FuncData} {N ps : List Str} {k : Nat} {sp : Sp} (F : Fun K x qual st f fd) (S : FnScope N ps (defScope st)) (len : ∀ vs H Q E, sp vs H Q E → vs.length = ps.length)
    (hbody : ∀ (cdv : Value) (A : Around) (outer : List Env) (s : Shared) (H : Hp) (vs : List V) (Q : VK) (E : XK), Room k (A.deeper (envOfC qual (defScope st) s.heap.objs.size f cdv)) → sp vs H Q E →
      ∃ t, PSs (cxOf CX0 P w K mg base N qual (defScope st) f cdv A outer s H E).nox (defBody st) t ∧ t { nx := fun _ H' => Q .non H', rt := Q } (start N vs) H) : FnOk P w K mg base CX0 (k + 1) f fd ps sp := by
  obtain ⟨oc, od, kV, doc, pm, an, cdv, ct, osl, rfl, lk, hcd⟩ := F.ex
  refine fn_of lk hcd S len fun A outer s H vs Q E hr hsp => ?_
  obtain ⟨t, h, q⟩ := hbody cdv A outer s H vs Q E hr hsp
  exact ⟨t, h.nox, q⟩
/-- how its arguments bind (no defaults): h is «fun _ _ _ _ _ _ us hl => match us, hl with | [_, _], _ => rfl», one _ a parameter -/
theorem Fun.binds {x qual : Str} {st : Stmt} {f : Addr} {fd : FuncData} {ps : List Str} (F : Fun K x qual st f fd)
    (h : ∀ (kV doc pm : Value) (an : Option Addr) (cdv ct : Value) (us : List Value), us.length = ps.length → bindArgs (PySem.W.fnOf x qual (defArgs st) (defBody st) (defScope st) .none kV doc pm an cdv ct) ⟨us, []⟩ = pure (ps.zip us)) : Binds K fd ps [] := by
  obtain ⟨oc, od, kV, doc, pm, an, cdv, ct, osl, rfl, lk, hcd⟩ := F.ex
  exact .all (h kV doc pm an cdv ct)
theorem fun_mk {x qual : Str} {st : Stmt} {f : Addr} {oc : Value} {od an : Option Addr} {osl : Array (Option Value)} {kV doc pm cdv ct : Value} (l : K.lookup f = some ⟨oc, od, .func (PySem.W.fnOf x qual (defArgs st) (defBody st) (defScope st) .none kV doc pm an cdv ct), osl⟩)
    (c : PySem.W.codeIn K cdv qual = true) (k : PySem.W.keepIn K (.ref f) = true) : Fun K x qual st f (PySem.W.fnOf x qual (defArgs st) (defBody st) (defScope st) .none kV doc pm an cdv ct) := ⟨⟨oc, od, kV, doc, pm, an, cdv, ct, osl, rfl, l, c⟩, k⟩
end

/-! ### expressions in short: the name that stands in the i-th slot -/
section
variable {X : Cx}
theorem pv (i : Nat) {x : Str} {pos : Pos} (hN : X.N[i]? = some x := by rfl) (hv : Vis X.env.scope x := by first | exact Or.inl rfl | exact Or.inr (Or.inl rfl) | exact Or.inr (Or.inr rfl)) (hd : (x == ("__debug__" : Str)) = false := by decide)
    (hcd : (x == ("__classdict__" : Str)) = false := by decide) : PE X (.Name x pos) (tVar i) := pe_var hN hv hd hcd
end

/-! ### tests -/
theorem iteF {A B : Prop} (h : B) : if false = true then A else B := by
  rw [if_neg Bool.false_ne_true]
  exact h
theorem iteT {A B : Prop} (h : A) : if true = true then A else B := by
  rw [if_pos rfl]
  exact h
theorem ite2 {c A B : Prop} [Decidable c] (h1 : c → A) (h2 : ¬ c → B) : if c then A else B := by
  by_cases h : c
  · rw [if_pos h]
    exact h1 h
  · rw [if_neg h]
    exact h2 h

/-! ### heaps -/
/-- all that was tracked is as it was -/
noncomputable def Same (H H' : Hp) : Prop := ∀ b o, H b = some o → H' b = some o
theorem Same.refl (H : Hp) : Same H H := fun _ _ h => h
theorem Same.trans {H H1 H2 : Hp} (a : Same H H1) (b : Same H1 H2) : Same H H2 := fun c o h => b c o (a c o h)
theorem Same.free {H H' : Hp} (e : Same H H') {l : Addr} (h : H' l = Option.none) : H l = Option.none := by
  cases q : H l with
  | none => rfl
  | some o =>
    rw [e l o q] at h
    cases h
theorem Same.seq {K : PySem.W.Frag} {H H' : Hp} {a : Addr} {xs : List V} (e : Same H H') (h : SqL K H a xs) : SqL K H' a xs := by
  rcases h with (h | ⟨o, h⟩) | h
  · exact .inl (.inl (e _ _ h))
  · exact .inl (.inr ⟨o, e _ _ h⟩)
  · exact .inr h

/-! ### a dict's pairs: keys that differ -/
section
variable {κ : Type} [DecidableEq κ]
end
/-! ### lists -/
theorem at_of {xs : List V} {z : Int} {j : Nat} {v : V} (e : z = (j : Int)) (h : xs[j]? = some v) : atI xs z = some v := by
  rw [e]
  exact atI_nat h
/-- a new instance and its __init__ leave all that was tracked as it was -/
theorem Same.made {H H1 : Hp} {x dx C : Addr} (nx : H x = Option.none) (nd : H dx = Option.none) (k : ∀ b o, (upd (upd H dx (.own x)) x (.ins C dx [])) b = some o → b ≠ x → H1 b = some o) : Same H H1 := fun b o e =>
  k b o (by rw [upd_ne (ne_of_none e nx), upd_ne (ne_of_none e nd)]; exact e) (ne_of_none e nx)
end L2
namespace LD
/-! ### the mirror's data -/
structure MT where
  rs : List Nat
  last : Nat
  well : Bool
structure MS where
  needs : Nat
  wait : Nat
  tries : Nat
  kind : Nat
  d : MT
  u : MT
structure MB where
  steps : List MS
  now : Nat
  way : Nat
noncomputable def MT.over (t : MT) (wait now : Nat) : Bool := match t.rs.getLast? with
  | none => false
  | some r => if r = 0 then decide (t.last + wait ≤ now) else decide (r = 1)
noncomputable def MT.may (t : MT) (wait now : Nat) : Bool := decide (t.rs.length = 0) || t.over wait now
noncomputable def MT.ans (t : MT) : Bool := !t.rs.contains 0
noncomputable def MT.tell (t : MT) (now : Nat) : MT := ⟨t.rs ++ [0], now, t.well⟩
noncomputable def MT.take (t : MT) (k r : Nat) : MT := ⟨t.rs.set (k - 1) r, t.last, t.well || decide (r = 2)⟩
noncomputable def MT.isTold (t : MT) (k : Nat) : Bool := decide (1 ≤ k) && decide (k ≤ t.rs.length)
noncomputable def MT.isAns (t : MT) (k : Nat) : Bool := !decide (t.rs.getD (k - 1) 0 = 0)
noncomputable def MS.clean (m : MS) : Bool := m.u.well || (!m.d.well && m.d.ans)
noncomputable def MS.givenUp (m : MS) (now : Nat) : Bool := !m.d.well && !decide (m.kind = 2) && decide (m.d.rs.length = m.tries) && m.d.over m.wait now && (!decide (m.kind = 1) || m.d.ans)
noncomputable def MS.pointTold (m : MS) : Bool := decide (m.kind = 1) && decide (0 < m.d.rs.length)
noncomputable def MS.standing (m : MS) : Nat := if m.u.well then 2 else if m.d.well then 1 else 0
noncomputable def MS.tl (m : MS) (c : Bool) : MT := if c then m.u else m.d
noncomputable def MS.setTl (m : MS) (c : Bool) (t : MT) : MS := if c then { m with u := t } else { m with d := t }
noncomputable def MS.oldDo (m : MS) (k ok : Nat) : Bool := if k ≤ 8 then m.d.isAns k else if m.d.well then true else if k = m.d.rs.length then m.d.isAns k else decide (ok = 0)
noncomputable def MS.old (m : MS) (c : Bool) (k ok : Nat) : Bool := if m.u.well then true else if c then decide (ok = 0) && (!decide (k = m.u.rs.length) || m.u.isAns k) else m.oldDo k ok
/-! ### the mirror of the business -/
noncomputable def bitsTo (ms : List MS) : Nat → Nat
  | 0 => 0
  | k + 1 => match ms[k]? with
    | some m => if m.d.well then bitsTo ms k ||| 2 ^ k else bitsTo ms k
    | none => bitsTo ms k
noncomputable def heldL : List MS → Nat
  | [] => 0
  | m :: r => if m.clean then heldL r else heldL r ||| m.needs
noncomputable def MB.mayD (b : MB) (i : Nat) : Bool := match b.steps[i]? with
  | none => false
  | some m => !m.d.well && decide (m.needs &&& bitsTo b.steps b.steps.length = m.needs) && m.d.may m.wait b.now
noncomputable def MB.mayU (b : MB) (i : Nat) : Bool := match b.steps[i]? with
  | none => false
  | some m => !m.clean && !(heldL (b.steps.drop (i + 1))).testBit i && m.u.may m.wait b.now
noncomputable def MB.placeD (b : MB) : Option Nat := (List.range b.steps.length).find? b.mayD
noncomputable def MB.placeU (b : MB) : Option Nat := ((List.range b.steps.length).filter b.mayU).getLast?
noncomputable def MB.pick (b : MB) : Option Nat := if b.way = 0 then b.placeD else if b.way = 1 then b.placeU else none
noncomputable def MB.what (b : MB) : Bool := decide (b.way = 1)
noncomputable def wayOf (b : MB) : Nat :=
  let w := if b.way = 0 then (if b.steps.any (fun m => m.givenUp b.now) then 1 else if b.steps.all (fun m => m.d.well) then 2 else 0) else b.way
  if w = 1 ∧ b.steps.all MS.clean = true then 3 else w
noncomputable def MB.settle (b : MB) : MB := { b with way := wayOf b }
noncomputable def MB.put (b : MB) (i : Nat) (m : MS) : MB := { b with steps := b.steps.set i m }
noncomputable def MB.next (b : MB) : MB × List Int := match b.pick with
  | none => (b, [0, -11])
  | some i => match b.steps[i]? with
    | none => (b, [0, -11])
    | some m => (b.put i (m.setTl b.what ((m.tl b.what).tell b.now)), [1, if b.what then 1 else 0, (i : Int), (((m.tl b.what).rs.length + 1 : Nat) : Int)])
noncomputable def MB.answer (b : MB) (i what k ok : Nat) : MB × Int := match b.steps[i]? with
  | none => (b, -22)
  | some m => if 1 < what ∨ 1 < ok then (b, -22)
    else if (m.tl (!decide (what = 0))).isTold k = false then (b, -2)
    else if m.old (!decide (what = 0)) k ok = true then (b, 0)
    else ((b.put i (m.setTl (!decide (what = 0)) ((m.tl (!decide (what = 0))).take k (if ok = 1 then 2 else 1)))).settle, 1)
noncomputable def MB.tick (b : MB) (t : Nat) : MB × Int := if 65535 < t then (b, -22) else
  (MB.settle { b with now := b.now + t }, ((MB.settle { b with now := b.now + t }).way : Nat))
noncomputable def MB.halt (b : MB) : MB × Int := if b.way ≠ 0 then (b, -11) else if b.steps.any MS.pointTold = true then (b, -16) else (MB.settle { b with way := 1 }, 0)
noncomputable def MB.step (b : MB) (i : Nat) : List Int := match b.steps[i]? with
  | none => [0, -22]
  | some m => [1, (m.d.rs.length : Int), (m.u.rs.length : Int), (m.standing : Int)]
/-! ### the mirror of the start -/
noncomputable def newS (n w t k : Nat) : MS := ⟨n, w, t, k, ⟨[], 0, false⟩, ⟨[], 0, false⟩⟩
noncomputable def parse (r : List Int) : List MS := (List.range (r.length / 4)).map fun i => newS (r.getD (4 * i) 0).toNat (r.getD (4 * i + 1) 0).toNat (r.getD (4 * i + 2) 0).toNat (r.getD (4 * i + 3) 0).toNat
noncomputable def fitS (i : Nat) (m : MS) : Bool := decide (m.needs >>> i = 0) && (decide (1 ≤ m.wait) && decide (m.wait ≤ 65535)) && (decide (1 ≤ m.tries) && decide (m.tries ≤ 8)) && decide (m.kind ≤ 2)
noncomputable def reachN (needs : Nat) (acc : List Nat) : Nat → Nat
  | 0 => needs
  | k + 1 => if needs.testBit k then reachN needs acc k ||| acc.getD k 0 else reachN needs acc k
noncomputable def reachTo (ms : List MS) : Nat → List Nat
  | 0 => []
  | k + 1 => match ms[k]? with
    | some m => reachTo ms k ++ [reachN m.needs (reachTo ms k) k]
    | none => reachTo ms k
noncomputable def points (ms : List MS) : List Nat := (List.range ms.length).filter fun i => match ms[i]? with
  | some m => decide (m.kind = 1)
  | none => false
noncomputable def kindFit (ms : List MS) (p i : Nat) (m : MS) : Bool :=
  !(decide (m.kind = 0) && !((reachTo ms ms.length).getD p 0).testBit i) && !(decide (m.kind = 2) && !((reachTo ms ms.length).getD i 0).testBit p)
noncomputable def allI (f : Nat → MS → Bool) (ms : List MS) : Bool := (List.range ms.length).all fun i => match ms[i]? with
  | some m => f i m
  | none => true
noncomputable def fit (ms : List MS) : Bool := if 1 ≤ ms.length ∧ ms.length ≤ 32 then (if allI fitS ms = true then (match points ms with
  | [] => ms.all fun m => decide (m.kind = 0)
  | [p] => allI (kindFit ms p) ms
  | _ => false) else false) else false
noncomputable def startM (o : Option MB) (r : List Int) : Option MB × Int := if fit (parse r) = true then (some ⟨parse r, 0, 0⟩, 0) else (o, -22)
/-! ### a call -/
noncomputable def numAns (x : Option MB × Int) : Option MB × List Int := (x.1, [0, x.2])
noncomputable def onB (o : Option MB) (f : MB → MB × List Int) : Option MB × List Int := match o with
  | none => (none, [])
  | some b => (some (f b).1, (f b).2)
noncomputable def dcall (o : Option MB) : List (List Int) → Option MB × List Int
  | [[0], r] => numAns (startM o r)
  | [[1]] => onB o MB.next
  | [[2, i, w, k, z]] => onB o fun b => ((b.answer i.toNat w.toNat k.toNat z.toNat).1, [0, (b.answer i.toNat w.toNat k.toNat z.toNat).2])
  | [[3, t]] => onB o fun b => ((b.tick t.toNat).1, [0, (b.tick t.toNat).2])
  | [[4]] => onB o fun b => (b.halt.1, [0, b.halt.2])
  | [[5]] => onB o fun b => (b, [0, (b.way : Int)])
  | [[6, i]] => onB o fun b => (b, b.step i.toNat)
  | _ => (o, [])
end LD
namespace LD
open Kp180
noncomputable def wellAt (ms : List MS) (q : Nat) : Bool := match ms[q]? with
  | some m => m.d.well
  | none => false
theorem bitsTo_bit (ms : List MS) (q : Nat) : ∀ k, (bitsTo ms k).testBit q = (decide (q < k) && wellAt ms q)
  | 0 => by simp [bitsTo]
  | k + 1 => by
    have ih := bitsTo_bit ms q k
    unfold bitsTo
    by_cases e : q = k
    · subst e
      have hk : decide (q < q + 1) = true := by simp
      rw [hk, Bool.true_and]
      have h0 : decide (q < q) = false := by simp
      rw [h0, Bool.false_and] at ih
      unfold wellAt
      cases h : ms[q]? with
      | none => simpa using ih
      | some m =>
        cases h2 : m.d.well with
        | true => simp [Nat.testBit_or, h2]
        | false => simpa [h2] using ih
    · have hk : decide (q < k + 1) = decide (q < k) := decide_eq_decide.mpr (by omega)
      rw [hk, ← ih]
      cases h : ms[k]? with
      | none => rfl
      | some m =>
        cases h2 : m.d.well with
        | true =>
          have : (2 ^ k).testBit q = false := by rw [Nat.testBit_two_pow]; simp; omega
          simp [Nat.testBit_or, h2, this]
        | false => simp [h2]
theorem heldL_bit (q : Nat) : ∀ ms : List MS, (heldL ms).testBit q = ms.any fun m => !m.clean && m.needs.testBit q
  | [] => by simp [heldL]
  | m :: r => by
    have ih := heldL_bit q r
    unfold heldL
    rw [List.any_cons]
    cases h : m.clean with
    | true => simpa [h] using ih
    | false => simp [h, Nat.testBit_or, ih, Bool.or_comm]
theorem and_eq_iff {a b : Nat} : a &&& b = a ↔ ∀ q, a.testBit q = true → b.testBit q = true := by
  constructor
  · intro h q hq
    have := congrArg (fun x => x.testBit q) h
    simp only [Nat.testBit_and, hq, Bool.true_and] at this
    exact this
  · intro h
    apply Nat.eq_of_testBit_eq
    intro q
    rw [Nat.testBit_and]
    cases e : a.testBit q with
    | true => simp [h q e]
    | false => simp
theorem bit_lt {n i q : Nat} (h : n < 2 ^ i) (b : n.testBit q = true) : q < i := by
  apply Decidable.byContradiction
  intro hq
  have h1 : 2 ^ i ≤ 2 ^ q := Nat.pow_le_pow_right (by omega) (by omega)
  have : n.testBit q = false := Nat.testBit_lt_two_pow (by omega)
  rw [this] at b
  cases b
theorem shift_zero {n i : Nat} : n >>> i = 0 ↔ n < 2 ^ i := by
  rw [Nat.shiftRight_eq_div_pow]
  have hp : 0 < 2 ^ i := Nat.pow_pos (by omega)
  constructor
  · intro h
    have := (Nat.div_eq_zero_iff).mp h
    omega
  · intro h
    exact Nat.div_eq_of_lt h
theorem last_filter {p : Nat → Bool} {i : Nat} (hi : p i = true) : ∀ n, i < n → (∀ j, i < j → j < n → p j = false) → ((List.range n).filter p).getLast? = some i
  | 0, h, _ => by omega
  | n + 1, h, hn => by
    rw [List.range_succ, List.filter_append]
    by_cases e : i = n
    · subst e
      rw [List.filter_cons, if_pos hi, List.filter_nil, List.getLast?_append]
      rfl
    · have hf : p n = false := hn n (by omega) (by omega)
      rw [List.filter_cons, if_neg (by rw [hf]; simp), List.filter_nil, List.append_nil]
      exact last_filter hi n (by omega) fun j h1 h2 => hn j h1 (by omega)
theorem last_filter_none {p : Nat → Bool} (n : Nat) (h : ∀ j, j < n → p j = false) : ((List.range n).filter p).getLast? = none := by
  have : (List.range n).filter p = [] := List.filter_eq_nil_iff.mpr fun a ha => by
    rw [h a (List.mem_range.mp ha)]; simp
  rw [this]; rfl
theorem find_range {p : Nat → Bool} {n i : Nat} (hn : i < n) (hi : p i = true) (hj : ∀ j, j < i → p j = false) : (List.range n).find? p = some i :=
  List.find?_range_eq_some.mpr ⟨hi, List.mem_range.mpr hn, fun j h => by rw [hj j h]; rfl⟩
theorem find_range_none {p : Nat → Bool} {n : Nat} (h : ∀ j, j < n → p j = false) : (List.range n).find? p = none :=
  List.find?_eq_none.mpr fun x hx => by rw [h x (List.mem_range.mp hx)]; simp
/-! ### one step -/
noncomputable def fate (r : Nat) : Fate := if r = 0 then .open_ else if r = 1 then .ill else .well
theorem fate_open {r : Nat} : fate r = .open_ ↔ r = 0 := by
  unfold fate; split
  · simp_all
  · split <;> simp_all
theorem fates_open (rs : List Nat) : (rs.map fate).contains Fate.open_ = rs.contains 0 := by
  rw [Bool.eq_iff_iff]
  simp only [List.contains_iff_mem, List.mem_map]
  constructor
  · rintro ⟨r, h, e⟩; rw [fate_open] at e; subst e; exact h
  · intro h; exact ⟨0, h, rfl⟩
structure SRel (m : MS) (s : Step) : Prop where
  rule : s.rule = ⟨m.needs, m.wait, m.tries, m.kind⟩
  told : s.told = m.d.rs.length
  undo : s.undo = m.u.rs.length
  fates : s.fates = (m.d.rs.take 8).map fate
  done : s.done = m.d.well
  undone : s.undone = m.u.well
  lastD : ∀ pre r, m.u.rs = [] → m.d.rs = pre ++ [r] → s.last = fate r ∧ s.since = m.d.last
  lastU : ∀ pre r, m.u.rs = pre ++ [r] → m.u.well = false → s.last = fate r ∧ s.since = m.u.last
structure ARel (b : MB) (a : Abs) : Prop where
  now : a.now = b.now
  how : howNumber a.how = b.way
  len : a.steps.length = b.steps.length
  st : ∀ (i : Nat) (m : MS) (s : Step), b.steps[i]? = some m → a.steps[i]? = some s → SRel m s
/-- what the rules of a business that was started are like -/
inductive Rch (ms : List MS) : Nat → Nat → Prop
  | one {i j : Nat} {m : MS} : ms[i]? = some m → m.needs.testBit j = true → Rch ms i j
  | more {i k j : Nat} {m : MS} : ms[i]? = some m → m.needs.testBit k = true → Rch ms k j → Rch ms i j
structure GOk (ms : List MS) : Prop where
  need : ∀ (i : Nat) (m : MS), ms[i]? = some m → m.needs < 2 ^ i
  wait : ∀ m ∈ ms, 1 ≤ m.wait
  tri1 : ∀ m ∈ ms, 1 ≤ m.tries
  tri8 : ∀ m ∈ ms, m.tries ≤ 8
  kind : ∀ m ∈ ms, m.kind ≤ 2
  uniq : ∀ (i j : Nat) (m n : MS), ms[i]? = some m → ms[j]? = some n → m.kind = 1 → n.kind = 1 → i = j
  k0 : ∀ (i j : Nat) (m n : MS), ms[i]? = some m → ms[j]? = some n → m.kind = 1 → n.kind = 0 → Rch ms i j
  k2 : ∀ (i : Nat) (m : MS), ms[i]? = some m → m.kind = 2 → ∃ (p : Nat) (n : MS), ms[p]? = some n ∧ n.kind = 1 ∧ Rch ms i p
structure POk (b : MB) : Prop where
  way : b.way ≤ 3
  good : GOk b.steps
  und : b.way = 0 ∨ b.way = 2 → ∀ m ∈ b.steps, m.u.rs = []
  le8 : b.way = 1 ∨ b.way = 3 → ∀ m ∈ b.steps, m.d.rs.length ≤ 8
  k0 : b.way = 0 → ∀ m ∈ b.steps, m.kind = 0 → m.d.rs.length ≤ m.tries
  told : b.way = 0 → ∀ (i : Nat) (m : MS), b.steps[i]? = some m → m.d.rs ≠ [] → ∀ (j : Nat) (n : MS), b.steps[j]? = some n → m.needs.testBit j = true → n.d.well = true
  dt : ∀ m ∈ b.steps, m.d.well = true → m.d.rs ≠ []
structure BOk (b : MB) : Prop extends POk b where
  ng : b.way = 0 → ∀ m ∈ b.steps, m.givenUp b.now = false
/-- whatever a told step needs, by way of others too, is done -/
theorem POk.rch {b : MB} (h : POk b) (hw : b.way = 0) {i j : Nat} (r : Rch b.steps i j) : ∀ (m n : MS), b.steps[i]? = some m → m.d.rs ≠ [] → b.steps[j]? = some n → n.d.well = true := by
  induction r with
  | @one i j m0 e1 e2 =>
    intro m n hm ht hn
    have e := Option.some.inj (hm.symm.trans e1)
    subst e
    exact h.told hw i m hm ht j n hn e2
  | @more i k j m0 e1 e2 e3 ih =>
    intro m n hm ht hn
    have e := Option.some.inj (hm.symm.trans e1)
    subst e
    have hk : k < b.steps.length := by
      have h1 := bit_lt (h.good.need i m hm) e2
      have h2 : i < b.steps.length := by
        apply Decidable.byContradiction; intro z
        rw [List.getElem?_eq_none (by omega)] at hm; cases hm
      omega
    have ek : b.steps[k]? = some b.steps[k] := List.getElem?_eq_getElem hk
    have dk := h.told hw i m hm ht k _ ek e2
    exact ih _ n ek (h.dt _ (List.getElem_mem hk) dk) hn
/-- who is told oftener than eight times is past the way back -/
theorem POk.le8_of {b : MB} (h : POk b) (hw : b.way = 0) (hg : (∃ (i : Nat) (g : MS), b.steps[i]? = some g ∧ g.kind ≠ 2 ∧ g.d.well = false ∧ g.d.rs.length = g.tries) ∨ ∀ m ∈ b.steps, m.pointTold = false) : ∀ m ∈ b.steps, m.d.rs.length ≤ 8 := by
  intro m hm
  apply Decidable.byContradiction
  intro h8
  obtain ⟨im, him⟩ := List.mem_iff_getElem?.mp hm
  have ht : m.d.rs ≠ [] := fun e => by rw [e] at h8; simp at h8
  have hk2 := h.good.kind m hm
  have htr := h.good.tri8 m hm
  have hk0 : m.kind ≠ 0 := fun e => by have := h.k0 hw m hm e; omega
  have hcase : m.kind = 1 ∨ m.kind = 2 := by omega
  rcases hcase with k1 | k2
  · rcases hg with ⟨i, g, hi, g2, gd, gt⟩ | hp
    · have gk : g.kind ≤ 2 := h.good.kind g (List.mem_of_getElem? hi)
      by_cases gk0 : g.kind = 0
      · have := h.rch hw (h.good.k0 im i m g him hi k1 gk0) m g him ht hi
        rw [gd] at this; cases this
      · have : i = im := h.good.uniq i im g m hi him (by omega) k1
        subst this
        rw [him] at hi; cases hi
        omega
    · have := hp m hm
      unfold MS.pointTold at this
      simp [k1] at this
      exact ht this
  · obtain ⟨p, n, hp, n1, r⟩ := h.good.k2 im m him k2
    have nd := h.rch hw r m n him ht hp
    have nt := h.dt n (List.mem_of_getElem? hp) nd
    rcases hg with ⟨i, g, hi, g2, gd, gt⟩ | hpt
    · have gk : g.kind ≤ 2 := h.good.kind g (List.mem_of_getElem? hi)
      by_cases gk0 : g.kind = 0
      · have := h.rch hw (h.good.k0 p i n g hp hi n1 gk0) n g hp nt hi
        rw [gd] at this; cases this
      · have : i = p := h.good.uniq i p g n hi hp (by omega) n1
        subst this
        rw [hp] at hi; cases hi
        rw [gd] at nd; cases nd
    · have := hpt n (List.mem_of_getElem? hp)
      unfold MS.pointTold at this
      simp [n1] at this
      exact nt this
end LD
namespace LD
open Kp180
theorem snoc_of {α : Type} {l : List α} (h : l ≠ []) : ∃ pre r, l = pre ++ [r] := ⟨l.dropLast, l.getLast h, (List.dropLast_concat_getLast h).symm⟩
theorem over_snoc {t : MT} {pre : List Nat} {r w now : Nat} (e : t.rs = pre ++ [r]) : t.over w now = if r = 0 then decide (t.last + w ≤ now) else decide (r = 1) := by
  unfold MT.over
  rw [e, List.getLast?_append]
  rfl
theorem over_fate {a : Abs} {s : Step} {r l : Nat} (h : s.last = fate r ∧ s.since = l) : over a s = if r = 0 then decide (l + s.rule.wait ≤ a.now) else decide (r = 1) := by
  unfold over
  rw [h.1]
  unfold fate
  by_cases e : r = 0
  · rw [if_pos e, if_pos e, h.2]
  · rw [if_neg e, if_neg e]
    by_cases e1 : r = 1
    · rw [if_pos e1, decide_eq_true e1]
    · rw [if_neg e1, decide_eq_false e1]
theorem overD {a : Abs} {m : MS} {s : Step} (h : SRel m s) (hu : m.u.rs = []) (hd : m.d.rs ≠ []) : over a s = m.d.over m.wait a.now := by
  obtain ⟨pre, r, e⟩ := snoc_of hd
  rw [over_snoc e, over_fate (h.lastD pre r hu e), h.rule]
theorem overU {a : Abs} {m : MS} {s : Step} (h : SRel m s) (hu : m.u.rs ≠ []) (hw : m.u.well = false) : over a s = m.u.over m.wait a.now := by
  obtain ⟨pre, r, e⟩ := snoc_of hu
  rw [over_snoc e, over_fate (h.lastU pre r e hw), h.rule]
theorem fates_ans {m : MS} {s : Step} (h : SRel m s) (h8 : m.d.rs.length ≤ 8) : (!(s.fates.contains .open_)) = m.d.ans := by
  rw [h.fates, List.take_of_length_le h8, fates_open]
  rfl
theorem clean_eq {m : MS} {s : Step} (h : SRel m s) (h8 : m.d.rs.length ≤ 8) : Kp180.clean s = m.clean := by
  unfold Kp180.clean MS.clean
  rw [h.undone, h.done, fates_ans h h8]
theorem given_eq {a : Abs} {m : MS} {s : Step} (h : SRel m s) (hu : m.u.rs = []) (h1 : 1 ≤ m.tries) (h8 : m.tries ≤ 8) : Kp180.givenUp a s = m.givenUp a.now := by
  unfold Kp180.givenUp MS.givenUp
  rw [h.done, h.told, h.rule]
  by_cases e : m.d.rs.length = m.tries
  · have hne : m.d.rs ≠ [] := fun z => by rw [z] at e; simp at e; omega
    rw [overD h hu hne, fates_ans h (by omega)]
    simp only [e, decide_true, beq_self_eq_true, Bool.and_true]
    have k2 : (m.kind != 2) = !decide (m.kind = 2) := rfl
    have k1 : (m.kind != 1) = !decide (m.kind = 1) := rfl
    show (!m.d.well && m.d.over m.wait a.now && (m.kind != 2) && ((m.kind != 1) || m.d.ans)) = _
    rw [k2, k1]
    cases m.d.well <;> cases m.d.over m.wait a.now <;> cases decide (m.kind = 2) <;> rfl
  · have e1 : (m.d.rs.length == m.tries) = false := beq_eq_false_iff_ne.mpr e
    rw [e1, decide_eq_false e]
    simp
theorem map_rel {β : Type} {b : MB} {a : Abs} (h : ARel b a) {p : MS → β} {q : Step → β} (hp : ∀ m ∈ b.steps, ∀ s, SRel m s → q s = p m) : a.steps.map q = b.steps.map p := by
  apply List.ext_getElem?
  intro i
  rw [List.getElem?_map, List.getElem?_map]
  cases e : b.steps[i]? with
  | none =>
    have : b.steps.length ≤ i := List.getElem?_eq_none_iff.mp e
    rw [List.getElem?_eq_none (by rw [h.len]; exact this)]
    rfl
  | some m =>
    have hi : i < b.steps.length := by
      apply Decidable.byContradiction; intro z
      rw [List.getElem?_eq_none (by omega)] at e; cases e
    have ea : a.steps[i]? = some (a.steps[i]'(by rw [h.len]; exact hi)) := List.getElem?_eq_getElem _
    rw [ea]
    exact congrArg some (hp m (List.mem_of_getElem? e) _ (h.st i m _ e ea))
theorem any_rel {b : MB} {a : Abs} (h : ARel b a) {p : MS → Bool} {q : Step → Bool} (hp : ∀ m ∈ b.steps, ∀ s, SRel m s → q s = p m) : a.steps.any q = b.steps.any p := by
  have := congrArg (fun l => l.any id) (map_rel h hp)
  simpa [List.any_map] using this
theorem all_rel {b : MB} {a : Abs} (h : ARel b a) {p : MS → Bool} {q : Step → Bool} (hp : ∀ m ∈ b.steps, ∀ s, SRel m s → q s = p m) : a.steps.all q = b.steps.all p := by
  have := congrArg (fun l => l.all id) (map_rel h hp)
  simpa [List.all_map] using this
theorem on_iff {b : MB} {a : Abs} (h : ARel b a) : a.how = .on ↔ b.way = 0 := by
  rw [← h.how]; cases a.how <;> simp [howNumber]
theorem back_iff {b : MB} {a : Abs} (h : ARel b a) : a.how = .back ↔ b.way = 1 := by
  rw [← h.how]; cases a.how <;> simp [howNumber]
/-- the way before the last look -/
noncomputable def way1 (b : MB) : Nat := if b.way = 0 then (if b.steps.any (fun m => m.givenUp b.now) then 1 else if b.steps.all (fun m => m.d.well) then 2 else 0) else b.way
theorem wayOf_eq (b : MB) : wayOf b = if way1 b = 1 ∧ b.steps.all MS.clean = true then 3 else way1 b := rfl
theorem POk.way1 {b : MB} (h : POk b) : BOk { b with way := LD.way1 b } := by
  unfold LD.way1
  by_cases hw : b.way = 0
  · rw [if_pos hw]
    by_cases hg : (b.steps.any fun m => m.givenUp b.now) = true
    · rw [if_pos hg]
      obtain ⟨g, gm, gg⟩ := List.any_eq_true.mp hg
      obtain ⟨i, hi⟩ := List.mem_iff_getElem?.mp gm
      have gg' : g.givenUp b.now = true := gg
      unfold MS.givenUp at gg'
      simp only [Bool.and_eq_true, Bool.not_eq_true', decide_eq_true_eq, decide_eq_false_iff_not] at gg'
      have h8 := h.le8_of hw (.inl ⟨i, g, hi, gg'.1.1.1.2, gg'.1.1.1.1, gg'.1.1.2⟩)
      exact { way := (by show (1 : Nat) ≤ 3; decide), good := h.good, und := fun z => (by rcases z with z | z <;> cases z), le8 := fun _ => h8, k0 := fun z => (by cases z), told := fun z => (by cases z), dt := h.dt, ng := fun z => (by cases z) }
    · rw [if_neg hg]
      by_cases ha : (b.steps.all fun m => m.d.well) = true
      · rw [if_pos ha]
        exact { way := (by show (2 : Nat) ≤ 3; decide), good := h.good, und := fun _ => h.und (.inl hw), le8 := fun z => (by rcases z with z | z <;> cases z), k0 := fun z => (by cases z), told := fun z => (by cases z), dt := h.dt, ng := fun z => (by cases z) }
      · rw [if_neg ha]
        refine { way := (by show (0 : Nat) ≤ 3; decide), good := h.good, und := fun _ => h.und (.inl hw), le8 := fun z => (by rcases z with z | z <;> cases z), k0 := fun _ => h.k0 hw, told := fun _ => h.told hw, dt := h.dt, ng := fun _ m hm => ?_ }
        cases e : m.givenUp b.now with
        | false => rfl
        | true => exact absurd (List.any_eq_true.mpr ⟨m, hm, e⟩) hg
  · rw [if_neg hw]
    exact { h with ng := fun z => absurd z hw }
theorem POk.settle {b : MB} (h : POk b) : BOk b.settle := by
  have h1 := h.way1
  unfold MB.settle
  rw [wayOf_eq]
  by_cases hc : LD.way1 b = 1 ∧ b.steps.all MS.clean = true
  · rw [if_pos hc]
    exact { way := (by show (3 : Nat) ≤ 3; decide), good := h.good, und := fun z => (by rcases z with z | z <;> cases z), le8 := fun _ => h1.le8 (.inl hc.1), k0 := fun z => (by cases z), told := fun z => (by cases z), dt := h.dt, ng := fun z => (by cases z) }
  · rw [if_neg hc]
    exact h1
theorem ARel.way {b : MB} {a : Abs} (h : ARel b a) {n : Nat} {w : How} (e : howNumber w = n) : ARel { b with way := n } { a with how := w } := ⟨h.now, e, h.len, h.st⟩
theorem rel_way1 {b : MB} {a : Abs} (h : ARel b a) (ok : POk b) : ARel { b with way := LD.way1 b } (if a.how = .on then (if a.steps.any (givenUp a) then { a with how := .back } else if a.steps.all Step.done then { a with how := .done } else a) else a) := by
  unfold LD.way1
  by_cases hw : b.way = 0
  · rw [if_pos hw, if_pos ((on_iff h).mpr hw)]
    have eg : a.steps.any (givenUp a) = b.steps.any fun m => m.givenUp b.now := any_rel h fun m hm s r => by
      rw [given_eq r (ok.und (.inl hw) m hm) (ok.good.tri1 m hm) (ok.good.tri8 m hm), h.now]
    have ea : a.steps.all Step.done = b.steps.all fun m => m.d.well := all_rel h fun m hm s r => r.done
    rw [eg, ea]
    by_cases hg : (b.steps.any fun m => m.givenUp b.now) = true
    · rw [if_pos hg, if_pos hg]; exact h.way rfl
    · rw [if_neg hg, if_neg hg]
      by_cases ha : (b.steps.all fun m => m.d.well) = true
      · rw [if_pos ha, if_pos ha]; exact h.way rfl
      · rw [if_neg ha, if_neg ha]
        exact ⟨h.now, by rw [h.how, hw], h.len, h.st⟩
  · rw [if_neg hw, if_neg fun z => hw ((on_iff h).mp z)]
    exact h
theorem rel_settle {b : MB} {a : Abs} (h : ARel b a) (ok : POk b) : ARel b.settle (settled a) := by
  have h1 := rel_way1 h ok
  have ok1 := ok.way1
  unfold MB.settle settled
  rw [wayOf_eq]
  simp only []
  generalize (if a.how = .on then (if a.steps.any (givenUp a) then { a with how := .back } else if a.steps.all Step.done then { a with how := .done } else a) else a) = a1 at h1
  have hb : a1.how = .back ↔ LD.way1 b = 1 := back_iff h1
  by_cases hw : LD.way1 b = 1
  · have hc : a1.steps.all Kp180.clean = b.steps.all MS.clean := all_rel h1 fun m hm s r => clean_eq r (ok1.le8 (.inl hw) m hm)
    by_cases hcl : b.steps.all MS.clean = true
    · rw [if_pos ⟨hw, hcl⟩, if_pos ⟨hb.mpr hw, by rw [hc]; exact hcl⟩]
      exact ⟨h1.now, rfl, h1.len, h1.st⟩
    · rw [if_neg fun z => hcl z.2, if_neg fun z => hcl (by rw [← hc]; exact z.2)]
      exact h1
  · rw [if_neg fun z => hw z.1, if_neg fun z => hw (hb.mp z.1)]
    exact h1
end LD
namespace LD
open Kp180
theorem find_congr {α : Type} {p q : α → Bool} : ∀ {l : List α}, (∀ x ∈ l, p x = q x) → l.find? p = l.find? q
  | [], _ => rfl
  | x :: r, h => by
    rw [List.find?_cons, List.find?_cons, h x (List.mem_cons_self ..), find_congr fun y hy => h y (List.mem_cons_of_mem _ hy)]
theorem lt_of_some {α : Type} {l : List α} {i : Nat} {x : α} (e : l[i]? = some x) : i < l.length := by
  apply Decidable.byContradiction; intro z
  rw [List.getElem?_eq_none (by omega)] at e; cases e
theorem ARel.at_ {b : MB} {a : Abs} (h : ARel b a) {i : Nat} {m : MS} (e : b.steps[i]? = some m) : ∃ s, a.steps[i]? = some s ∧ step a i = s ∧ SRel m s := by
  have hi : i < a.steps.length := by rw [h.len]; exact lt_of_some e
  have ea : a.steps[i]? = some a.steps[i] := List.getElem?_eq_getElem hi
  refine ⟨_, ea, ?_, h.st i m _ e ea⟩
  unfold Kp180.step
  rw [List.getD_eq_getElem?_getD, ea]
  rfl
theorem put_at {b : MB} {i : Nat} {m m' : MS} (e : b.steps[i]? = some m) (j : Nat) : (b.put i m').steps[j]? = if j = i then some m' else b.steps[j]? := by
  show (b.steps.set i m')[j]? = _
  rw [List.getElem?_set]
  by_cases h : i = j
  · subst h
    rw [if_pos rfl, if_pos rfl, if_pos (lt_of_some e)]
  · rw [if_neg h, if_neg fun z => h z.symm]
theorem put_mem {b : MB} {i : Nat} {m' x : MS} (h : x ∈ (b.put i m').steps) : x = m' ∨ x ∈ b.steps := (List.mem_or_eq_of_mem_set h).symm
theorem change_at (a : Abs) (i j : Nat) (f : Step → Step) : (change a i f).steps[j]? = if j = i then (a.steps[j]?).map f else a.steps[j]? := by
  unfold change
  show (a.steps.zipIdx.map _)[j]? = _
  rw [List.getElem?_map, List.getElem?_zipIdx]
  cases a.steps[j]? with
  | none => simp
  | some s =>
    by_cases e : j = i
    · subst e; simp
    · simp [e]
theorem ARel.change {b : MB} {a : Abs} (h : ARel b a) {i : Nat} {m m' : MS} {f : Step → Step} (e : b.steps[i]? = some m) (hf : ∀ s, SRel m s → SRel m' (f s)) : ARel (b.put i m') (change a i f) := by
  refine ⟨h.now, h.how, ?_, fun j n s hn hs => ?_⟩
  · show (a.steps.zipIdx.map _).length = (b.steps.set i m').length
    rw [List.length_map, List.length_zipIdx, List.length_set, h.len]
  · rw [put_at e] at hn
    rw [change_at] at hs
    by_cases hj : j = i
    · subst hj
      rw [if_pos rfl] at hn hs
      cases hn
      obtain ⟨s0, e0, _, r0⟩ := h.at_ e
      rw [e0] at hs
      cases hs
      exact hf s0 r0
    · rw [if_neg hj] at hn hs
      exact h.st j n s hn hs
noncomputable def ruleOf (m : MS) : Nat × Nat × Nat × Nat := (m.needs, m.wait, m.tries, m.kind)
theorem GOk.congr {ms ns : List MS} (h : GOk ms) (e : ns.map ruleOf = ms.map ruleOf) : GOk ns := by
  have fw : ∀ (i : Nat) (n : MS), ns[i]? = some n → ∃ m, ms[i]? = some m ∧ m.needs = n.needs ∧ m.wait = n.wait ∧ m.tries = n.tries ∧ m.kind = n.kind := fun i n hn => by
    have := congrArg (fun l => l[i]?) e
    simp only [List.getElem?_map, hn, Option.map_some] at this
    cases hm : ms[i]? with
    | none => rw [hm] at this; cases this
    | some m =>
      rw [hm] at this
      have := Option.some.inj this
      simp only [ruleOf, Prod.mk.injEq] at this
      exact ⟨m, rfl, this.1.symm, this.2.1.symm, this.2.2.1.symm, this.2.2.2.symm⟩
  have bw : ∀ (i : Nat) (m : MS), ms[i]? = some m → ∃ n, ns[i]? = some n ∧ m.needs = n.needs ∧ m.kind = n.kind := fun i m hm => by
    have := congrArg (fun l => l[i]?) e
    simp only [List.getElem?_map, hm, Option.map_some] at this
    cases hn : ns[i]? with
    | none => rw [hn] at this; cases this
    | some n =>
      rw [hn] at this
      have := Option.some.inj this
      simp only [ruleOf, Prod.mk.injEq] at this
      exact ⟨n, rfl, this.1.symm, this.2.2.2.symm⟩
  have fm : ∀ n ∈ ns, ∃ m ∈ ms, m.needs = n.needs ∧ m.wait = n.wait ∧ m.tries = n.tries ∧ m.kind = n.kind := fun n hn => by
    obtain ⟨i, hi⟩ := List.mem_iff_getElem?.mp hn
    obtain ⟨m, h1, h2⟩ := fw i n hi
    exact ⟨m, List.mem_of_getElem? h1, h2⟩
  have rc : ∀ i j, Rch ms i j → Rch ns i j := fun i j r => by
    induction r with
    | one e1 e2 =>
      obtain ⟨n, h1, h2, _⟩ := bw _ _ e1
      exact .one h1 (by rw [← h2]; exact e2)
    | more e1 e2 _ ih =>
      obtain ⟨n, h1, h2, _⟩ := bw _ _ e1
      exact .more h1 (by rw [← h2]; exact e2) ih
  refine ⟨fun i n hn => ?_, fun n hn => ?_, fun n hn => ?_, fun n hn => ?_, fun n hn => ?_, fun i j n n' hn hn' k k' => ?_, fun i j n n' hn hn' k k' => ?_, fun i n hn k => ?_⟩
  · obtain ⟨m, h1, h2, _⟩ := fw i n hn
    rw [← h2]; exact h.need i m h1
  · obtain ⟨m, h1, _, h2, _⟩ := fm n hn
    rw [← h2]; exact h.wait m h1
  · obtain ⟨m, h1, _, _, h2, _⟩ := fm n hn
    rw [← h2]; exact h.tri1 m h1
  · obtain ⟨m, h1, _, _, h2, _⟩ := fm n hn
    rw [← h2]; exact h.tri8 m h1
  · obtain ⟨m, h1, _, _, _, h2⟩ := fm n hn
    rw [← h2]; exact h.kind m h1
  · obtain ⟨m, h1, _, _, _, h2⟩ := fw i n hn
    obtain ⟨m', h1', _, _, _, h2'⟩ := fw j n' hn'
    exact h.uniq i j m m' h1 h1' (h2.trans k) (h2'.trans k')
  · obtain ⟨m, h1, _, _, _, h2⟩ := fw i n hn
    obtain ⟨m', h1', _, _, _, h2'⟩ := fw j n' hn'
    exact rc _ _ (h.k0 i j m m' h1 h1' (h2.trans k) (h2'.trans k'))
  · obtain ⟨m, h1, _, _, _, h2⟩ := fw i n hn
    obtain ⟨p, q, hp, hq, r⟩ := h.k2 i m h1 (h2.trans k)
    obtain ⟨n', g1, _, g2⟩ := bw p q hp
    exact ⟨p, n', g1, g2.symm.trans hq, rc _ _ r⟩
theorem POk.put {b : MB} {i : Nat} {m m' : MS} (h : POk b) (e : b.steps[i]? = some m) (hr : ruleOf m' = ruleOf m) (hu : b.way = 0 ∨ b.way = 2 → m'.u.rs = []) (h8 : b.way = 1 ∨ b.way = 3 → m'.d.rs.length ≤ 8)
    (hk : b.way = 0 → m'.kind = 0 → m'.d.rs.length ≤ m'.tries) (ht : b.way = 0 → m'.d.rs ≠ [] → ∀ (j : Nat) (n : MS), b.steps[j]? = some n → m'.needs.testBit j = true → n.d.well = true)
    (hw : m.d.well = true → m'.d.well = true) (hd : m'.d.well = true → m'.d.rs ≠ []) : POk (b.put i m') := by
  refine ⟨h.way, h.good.congr ?_, fun z x hx => ?_, fun z x hx => ?_, fun z x hx => ?_, fun z i2 x hx hxt j n hn hb => ?_, fun x hx => ?_⟩
  · show (b.steps.set i m').map ruleOf = _
    rw [List.map_set, hr]
    apply List.ext_getElem?
    intro j
    rw [List.getElem?_set]
    by_cases hj : i = j
    · subst hj
      rw [if_pos rfl, List.length_map, if_pos (lt_of_some e), List.getElem?_map, e]
      rfl
    · rw [if_neg hj]
  · rcases put_mem hx with rfl | hx
    · exact hu z
    · exact h.und z x hx
  · rcases put_mem hx with rfl | hx
    · exact h8 z
    · exact h.le8 z x hx
  · rcases put_mem hx with rfl | hx
    · exact hk z
    · exact h.k0 z x hx
  · have hz : ∀ (j : Nat) (n : MS), (b.put i m').steps[j]? = some n → (∀ n0, b.steps[j]? = some n0 → n0.d.well = true) → n.d.well = true := fun j n hn hh => by
      rw [put_at e] at hn
      by_cases hj : j = i
      · subst hj
        rw [if_pos rfl] at hn; cases hn
        exact hw (hh m e)
      · rw [if_neg hj] at hn
        exact hh n hn
    refine hz j n hn fun n0 hn0 => ?_
    rw [put_at e] at hx
    by_cases h2 : i2 = i
    · rw [if_pos h2] at hx; cases hx
      exact ht z hxt j n0 hn0 hb
    · rw [if_neg h2] at hx
      exact h.told z i2 x hx hxt j n0 hn0 hb
  · rcases put_mem hx with rfl | hx
    · exact hd
    · exact h.dt x hx
/-! ### lb_next -/
theorem mayDo_eq {b : MB} {a : Abs} (h : ARel b a) (ok : BOk b) (hw : b.way = 0) {i : Nat} (hi : i < b.steps.length) : mayDo a i = b.mayD i := by
  have e : b.steps[i]? = some b.steps[i] := List.getElem?_eq_getElem hi
  generalize b.steps[i] = m at e
  obtain ⟨s, es, est, r⟩ := h.at_ e
  have hm := List.mem_of_getElem? e
  unfold mayDo MB.mayD
  rw [e]
  simp only [est]
  have hu := ok.und (.inl hw) m hm
  have h1 : (((List.range a.steps.length).filter (Kp180.needs s.rule)).all fun j => (step a j).done) = decide (m.needs &&& bitsTo b.steps b.steps.length = m.needs) := by
    rw [Bool.eq_iff_iff, decide_eq_true_eq, and_eq_iff, List.all_eq_true]
    constructor
    · intro hh q hq
      have q1 := bit_lt (ok.good.need i m e) hq
      have q2 : q < b.steps.length := by omega
      obtain ⟨s', es', est', r'⟩ := h.at_ (List.getElem?_eq_getElem q2)
      have := hh q (List.mem_filter.mpr ⟨List.mem_range.mpr (by rw [h.len]; exact q2), by unfold Kp180.needs; rw [r.rule]; exact hq⟩)
      rw [est', r'.done] at this
      rw [bitsTo_bit, decide_eq_true q2, Bool.true_and]
      unfold wellAt
      rw [List.getElem?_eq_getElem q2]
      exact this
    · intro hh q hq
      obtain ⟨q1, q2⟩ := List.mem_filter.mp hq
      have q3 : q < b.steps.length := by rw [← h.len]; exact List.mem_range.mp q1
      unfold Kp180.needs at q2
      rw [r.rule] at q2
      have := hh q q2
      rw [bitsTo_bit, decide_eq_true q3, Bool.true_and] at this
      unfold wellAt at this
      rw [List.getElem?_eq_getElem q3] at this
      obtain ⟨s', es', est', r'⟩ := h.at_ (List.getElem?_eq_getElem q3)
      rw [est', r'.done]
      exact this
  have h2 : (s.told == 0 || (over a s && !givenUp a s)) = m.d.may m.wait b.now := by
    unfold MT.may
    rw [r.told]
    by_cases hz : m.d.rs = []
    · rw [hz]; rfl
    · have hl : ¬ m.d.rs.length = 0 := fun z => hz (List.eq_nil_of_length_eq_zero z)
      rw [decide_eq_false hl, Bool.false_or, given_eq r hu (ok.good.tri1 m hm) (ok.good.tri8 m hm), h.now, ok.ng hw m hm, overD r hu hz, h.now]
      have : (m.d.rs.length == 0) = false := beq_eq_false_iff_ne.mpr hl
      rw [this, Bool.false_or, Bool.not_false, Bool.and_true]
  rw [h1, h2, r.done]
theorem mayUndo_eq {b : MB} {a : Abs} (h : ARel b a) (ok : BOk b) (hw : b.way = 1) {i : Nat} (hi : i < b.steps.length) : mayUndo a i = b.mayU i := by
  have e : b.steps[i]? = some b.steps[i] := List.getElem?_eq_getElem hi
  generalize b.steps[i] = m at e
  obtain ⟨s, es, est, r⟩ := h.at_ e
  have hm := List.mem_of_getElem? e
  unfold mayUndo MB.mayU
  rw [e]
  simp only [est]
  have h8 := ok.le8 (.inl hw)
  have h1 : (((List.range a.steps.length).filter fun j => Kp180.needs (step a j).rule i).all fun j => Kp180.clean (step a j)) = !(heldL (b.steps.drop (i + 1))).testBit i := by
    rw [heldL_bit, Bool.eq_iff_iff, List.all_eq_true, Bool.not_eq_true', List.any_eq_false]
    constructor
    · intro hh x hx hc
      obtain ⟨j, hj⟩ := List.mem_iff_getElem?.mp hx
      rw [List.getElem?_drop] at hj
      have hj2 := lt_of_some hj
      obtain ⟨s', es', est', r'⟩ := h.at_ hj
      simp only [Bool.and_eq_true, Bool.not_eq_true'] at hc
      have := hh (i + 1 + j) (List.mem_filter.mpr ⟨List.mem_range.mpr (by rw [h.len]; exact hj2), by unfold Kp180.needs; rw [est', r'.rule]; exact hc.2⟩)
      rw [est', clean_eq r' (h8 x (List.mem_of_getElem? hj)), hc.1] at this
      cases this
    · intro hh j hj
      obtain ⟨q1, q2⟩ := List.mem_filter.mp hj
      have q3 : j < b.steps.length := by rw [← h.len]; exact List.mem_range.mp q1
      have ej : b.steps[j]? = some b.steps[j] := List.getElem?_eq_getElem q3
      obtain ⟨s', es', est', r'⟩ := h.at_ ej
      unfold Kp180.needs at q2
      rw [est', r'.rule] at q2
      have q4 := bit_lt (ok.good.need j _ ej) q2
      rw [est', clean_eq r' (h8 _ (List.getElem_mem q3))]
      cases hc : (b.steps[j]).clean with
      | true => rfl
      | false =>
        exfalso
        refine hh b.steps[j] ?_ ?_
        · refine List.mem_of_getElem? (i := j - (i + 1)) ?_
          rw [List.getElem?_drop]
          have : i + 1 + (j - (i + 1)) = j := by omega
          rw [this]
          exact ej
        · have q2 : (b.steps[j]).needs.testBit i = true := q2
          rw [hc, q2]; rfl
  rw [h1, clean_eq r (h8 m hm), r.undo]
  by_cases hc : m.clean = true
  · rw [hc]; rfl
  · have hc : m.clean = false := Bool.eq_false_iff.mpr hc
    rw [hc]
    have hwell : m.u.well = false := by
      cases hz : m.u.well with
      | false => rfl
      | true => unfold MS.clean at hc; rw [hz, Bool.true_or] at hc; cases hc
    congr 1
    unfold MT.may
    by_cases hz : m.u.rs = []
    · rw [hz]; rfl
    · have hl : ¬ m.u.rs.length = 0 := fun z => hz (List.eq_nil_of_length_eq_zero z)
      have : (m.u.rs.length == 0) = false := beq_eq_false_iff_ne.mpr hl
      rw [decide_eq_false hl, this, overU r hz hwell, h.now]
theorem rel_toDo {m : MS} {s : Step} {now : Nat} (r : SRel m s) (hu : m.u.rs = []) : SRel (m.setTl false (m.d.tell now)) { s with told := s.told + 1, since := now, fates := if s.told < 8 then s.fates ++ [.open_] else s.fates, last := .open_ } := by
  refine ⟨r.rule, ?_, r.undo, ?_, r.done, r.undone, fun pre x _ e => ?_, fun pre x e _ => ?_⟩
  · show s.told + 1 = (m.d.rs ++ [0]).length
    rw [r.told, List.length_append]; rfl
  · show (if s.told < 8 then s.fates ++ [.open_] else s.fates) = ((m.d.rs ++ [0]).take 8).map fate
    rw [r.told, r.fates]
    by_cases h : m.d.rs.length < 8
    · rw [if_pos h, List.take_of_length_le (by omega), List.take_of_length_le (by rw [List.length_append]; show _ + 1 ≤ 8; omega), List.map_append]
      rfl
    · rw [if_neg h, List.take_append_of_le_length (by omega)]
  · have e : m.d.rs ++ [0] = pre ++ [x] := e
    have := (List.append_inj' e rfl).2
    cases this
    exact ⟨rfl, rfl⟩
  · have e : m.u.rs = pre ++ [x] := e
    rw [hu] at e
    simp at e
theorem rel_toUndo {m : MS} {s : Step} {now : Nat} (r : SRel m s) : SRel (m.setTl true (m.u.tell now)) { s with undo := s.undo + 1, since := now, last := .open_ } := by
  refine ⟨r.rule, r.told, ?_, r.fates, r.done, r.undone, fun pre x e _ => ?_, fun pre x e _ => ?_⟩
  · show s.undo + 1 = (m.u.rs ++ [0]).length
    rw [r.undo, List.length_append]; rfl
  · have e : m.u.rs ++ [0] = [] := e
    simp at e
  · have e : m.u.rs ++ [0] = pre ++ [x] := e
    have := (List.append_inj' e rfl).2
    cases this
    exact ⟨rfl, rfl⟩
theorem settle_id {b : MB} (h : wayOf b = b.way) : b.settle = b := by
  unfold MB.settle
  rw [h]
theorem next_sim {b : MB} {a : Abs} (h : ARel b a) (ok : BOk b) : ARel b.next.1 (act a .next).1 ∧ BOk b.next.1 ∧ b.next.2 = Kp180Neutral.wrKp180_Ans (act a .next).2 := by
  have nothing : ARel b a ∧ BOk b ∧ ([0, -11] : List Int) = Kp180Neutral.wrKp180_Ans (.num (-11)) := ⟨h, ok, rfl⟩
  by_cases hw : b.way = 0
  · have ha := (on_iff h).mpr hw
    have hp : (List.range a.steps.length).find? (mayDo a) = b.pick := by
      unfold MB.pick MB.placeD
      rw [if_pos hw, h.len]
      exact find_congr fun x hx => mayDo_eq h ok hw (List.mem_range.mp hx)
    have hb : b.what = false := by unfold MB.what; rw [hw]; rfl
    unfold MB.next act
    simp only [ha, hp]
    cases e : b.pick with
    | none => exact nothing
    | some i =>
      have e0 : b.placeD = some i := by unfold MB.pick at e; rw [if_pos hw] at e; exact e
      have pi : b.mayD i = true := List.find?_some e0
      have hi : i < b.steps.length := List.mem_range.mp (List.mem_of_find?_eq_some e0)
      have em : b.steps[i]? = some b.steps[i] := List.getElem?_eq_getElem hi
      generalize b.steps[i] = m at em
      simp only [em, hb]
      have hm := List.mem_of_getElem? em
      have hu := ok.und (.inl hw) m hm
      unfold MB.mayD at pi
      simp only [em, Bool.and_eq_true, Bool.not_eq_true', decide_eq_true_eq] at pi
      obtain ⟨⟨p1, p2⟩, p3⟩ := pi
      obtain ⟨s, es, est, r⟩ := h.at_ em
      have R : ARel (b.put i (m.setTl false (m.d.tell b.now))) (toDo a i) := by
        unfold toDo
        rw [h.now]
        exact h.change em fun s' r' => rel_toDo r' hu
      have P : POk (b.put i (m.setTl false (m.d.tell b.now))) := by
        refine ok.toPOk.put em rfl (fun _ => hu) (fun z => by omega) (fun _ k => ?_) (fun _ _ j n hn hb => ?_) id (fun _ => by show m.d.rs ++ [0] ≠ []; simp)
        · show (m.d.rs ++ [0]).length ≤ m.tries
          rw [List.length_append]
          show m.d.rs.length + 1 ≤ m.tries
          have h0 := ok.k0 hw m hm k
          have h1 := ok.good.tri1 m hm
          have hg := ok.ng hw m hm
          have k : m.kind = 0 := k
          unfold MT.may at p3
          by_cases hz : m.d.rs.length = 0
          · omega
          · rw [decide_eq_false hz, Bool.false_or] at p3
            unfold MS.givenUp at hg
            rw [p1, p3, k] at hg
            by_cases hl : m.d.rs.length = m.tries
            · rw [decide_eq_true hl] at hg
              cases hg
            · omega
        · have := and_eq_iff.mp p2 j hb
          rw [bitsTo_bit] at this
          unfold wellAt at this
          rw [hn] at this
          simp at this
          exact this.2
      have W : wayOf (b.put i (m.setTl false (m.d.tell b.now))) = (b.put i (m.setTl false (m.d.tell b.now))).way := by
        have g0 : ((b.put i (m.setTl false (m.d.tell b.now))).steps.any fun x => x.givenUp b.now) = false := by
          rw [List.any_eq_false]
          intro x hx
          rcases put_mem hx with rfl | hx
          · have ov : (m.d.tell b.now).over m.wait b.now = false := by
              rw [over_snoc (t := m.d.tell b.now) (pre := m.d.rs) (r := 0) rfl, if_pos rfl]
              have := ok.good.wait m hm
              exact decide_eq_false (by show ¬ b.now + m.wait ≤ b.now; omega)
            show ¬ (!m.d.well && !decide (m.kind = 2) && decide ((m.d.tell b.now).rs.length = m.tries) && (m.d.tell b.now).over m.wait b.now && (!decide (m.kind = 1) || (m.d.tell b.now).ans)) = true
            rw [ov]
            simp
          · rw [ok.ng hw x hx]; simp
        have g1 : ((b.put i (m.setTl false (m.d.tell b.now))).steps.all fun x => x.d.well) = false := by
          rw [List.all_eq_false]
          refine ⟨m.setTl false (m.d.tell b.now), List.mem_of_getElem? (i := i) (by rw [put_at em, if_pos rfl]), ?_⟩
          show ¬ m.d.well = true
          rw [p1]; simp
        rw [wayOf_eq]
        have : way1 (b.put i (m.setTl false (m.d.tell b.now))) = 0 := by
          unfold way1
          have hw' : (b.put i (m.setTl false (m.d.tell b.now))).way = 0 := hw
          rw [if_pos hw']
          show (if ((b.put i (m.setTl false (m.d.tell b.now))).steps.any fun x => x.givenUp b.now) = true then 1 else _) = 0
          rw [g0, g1]; rfl
        rw [this]
        show (if 0 = 1 ∧ _ then 3 else 0) = b.way
        rw [if_neg (by simp), hw]
      have S := settle_id W
      have R2 := rel_settle R P
      have P2 := P.settle
      rw [S] at R2 P2
      refine ⟨R2, P2, ?_⟩
      show [1, (0 : Int), (i : Int), ((m.d.rs.length + 1 : Nat) : Int)] = [1, (0 : Int), (i : Int), (((step a i).told + 1 : Nat) : Int)]
      rw [est, r.told]
  · by_cases hw1 : b.way = 1
    · have ha := (back_iff h).mpr hw1
      have hp : ((List.range a.steps.length).filter (mayUndo a)).getLast? = b.pick := by
        unfold MB.pick MB.placeU
        rw [if_neg hw, if_pos hw1, h.len]
        rw [List.filter_congr fun x hx => mayUndo_eq h ok hw1 (List.mem_range.mp hx)]
      have hb : b.what = true := by unfold MB.what; rw [hw1]; rfl
      unfold MB.next act
      simp only [ha, hp]
      cases e : b.pick with
      | none => exact nothing
      | some i =>
        have e0 : b.placeU = some i := by unfold MB.pick at e; rw [if_neg hw, if_pos hw1] at e; exact e
        have hmem := List.mem_of_getLast? e0
        obtain ⟨q1, pi⟩ := List.mem_filter.mp hmem
        have hi : i < b.steps.length := List.mem_range.mp q1
        have em : b.steps[i]? = some b.steps[i] := List.getElem?_eq_getElem hi
        generalize b.steps[i] = m at em
        simp only [em, hb]
        have hm := List.mem_of_getElem? em
        unfold MB.mayU at pi
        simp only [em, Bool.and_eq_true, Bool.not_eq_true'] at pi
        obtain ⟨⟨p1, _⟩, _⟩ := pi
        obtain ⟨s, es, est, r⟩ := h.at_ em
        have R : ARel (b.put i (m.setTl true (m.u.tell b.now))) (toUndo a i) := by
          unfold toUndo
          rw [h.now]
          exact h.change em fun s' r' => rel_toUndo r'
        have P : POk (b.put i (m.setTl true (m.u.tell b.now))) :=
          ok.toPOk.put em rfl (fun z => by omega) (fun z => ok.le8 z m hm) (fun z => absurd z hw) (fun z => absurd z hw) id (ok.dt m hm)
        have W : wayOf (b.put i (m.setTl true (m.u.tell b.now))) = (b.put i (m.setTl true (m.u.tell b.now))).way := by
          have g1 : (b.put i (m.setTl true (m.u.tell b.now))).steps.all MS.clean = false := by
            rw [List.all_eq_false]
            refine ⟨m.setTl true (m.u.tell b.now), List.mem_of_getElem? (i := i) (by rw [put_at em, if_pos rfl]), ?_⟩
            show ¬ m.clean = true
            rw [p1]; simp
          rw [wayOf_eq, g1, if_neg (by simp)]
          unfold way1
          exact if_neg hw
        have S := settle_id W
        have R2 := rel_settle R P
        have P2 := P.settle
        rw [S] at R2 P2
        refine ⟨R2, P2, ?_⟩
        show [1, (1 : Int), (i : Int), ((m.u.rs.length + 1 : Nat) : Int)] = [1, (1 : Int), (i : Int), (((step a i).undo + 1 : Nat) : Int)]
        rw [est, r.undo]
    · have hp : b.pick = none := by unfold MB.pick; rw [if_neg hw, if_neg hw1]
      have h1 : a.how ≠ .on := fun z => hw ((on_iff h).mp z)
      have h2 : a.how ≠ .back := fun z => hw1 ((back_iff h).mp z)
      unfold MB.next act
      simp only [hp]
      cases e : a.how with
      | on => exact absurd e h1
      | back => exact absurd e h2
      | done => exact nothing
      | undone => exact nothing
end LD
namespace LD
open Kp180
theorem told_iff {t : MT} {k : Nat} : t.isTold k = false ↔ k = 0 ∨ t.rs.length < k := by
  unfold MT.isTold
  rw [Bool.and_eq_false_iff, decide_eq_false_iff_not, decide_eq_false_iff_not]
  omega
theorem getD_map_fate (rs : List Nat) (k : Nat) (hk : k < rs.length) (h8 : k < 8) : ((rs.take 8).map fate).getD k .ill = fate (rs.getD k 0) := by
  rw [List.getD_eq_getElem?_getD, List.getElem?_map, List.getElem?_take, if_pos h8, List.getElem?_eq_getElem hk, List.getD_eq_getElem?_getD, List.getElem?_eq_getElem hk]
  rfl
theorem last_getD {rs pre : List Nat} {r : Nat} (e : rs = pre ++ [r]) : rs.getD (rs.length - 1) 0 = r := by
  subst e
  rw [List.length_append]
  show (pre ++ [r]).getD (pre.length + 1 - 1) 0 = r
  rw [Nat.add_sub_cancel, List.getD_eq_getElem?_getD, List.getElem?_append_right (Nat.le_refl _), Nat.sub_self]
  rfl
theorem set_last {rs pre pre' : List Nat} {r x y k : Nat} (e : rs = pre ++ [r]) (hk : k = rs.length) (e2 : rs.set (k - 1) x = pre' ++ [y]) : y = x := by
  subst e hk
  rw [List.length_append] at e2
  have : (pre ++ [r]).set (pre.length + [r].length - 1) x = pre ++ [x] := by
    show (pre ++ [r]).set (pre.length + 1 - 1) x = pre ++ [x]
    rw [Nat.add_sub_cancel, List.set_append_right _ _ (Nat.le_refl _), Nat.sub_self]
    rfl
  rw [this] at e2
  have := (List.append_inj' e2 rfl).2
  cases this
  rfl
theorem set_other {rs pre pre' : List Nat} {r x y k : Nat} (e : rs = pre ++ [r]) (hk : 1 ≤ k) (hk2 : k < rs.length) (e2 : rs.set (k - 1) x = pre' ++ [y]) : y = r := by
  subst e
  rw [List.length_append] at hk2
  have hk2 : k < pre.length + 1 := hk2
  have : (pre ++ [r]).set (k - 1) x = pre.set (k - 1) x ++ [r] := List.set_append_left _ _ (by omega)
  rw [this] at e2
  have := (List.append_inj' e2 rfl).2
  cases this
  rfl
theorem set_ne {rs : List Nat} {k x : Nat} (h : rs ≠ []) : ∃ pre r, rs.set k x = pre ++ [r] := snoc_of fun z => h (by
  have := congrArg List.length z
  rw [List.length_set] at this
  exact List.eq_nil_of_length_eq_zero this)
noncomputable def repl (ok : Nat) : Nat := if ok = 1 then 2 else 1
theorem fate_repl (ok : Nat) : fate (repl ok) = if ok = 1 then Fate.well else Fate.ill := by
  unfold repl; by_cases h : ok = 1
  · rw [if_pos h, if_pos h]; rfl
  · rw [if_neg h, if_neg h]; rfl
theorem well_repl (ok : Nat) : decide (repl ok = 2) = (ok == 1) := by
  unfold repl; by_cases h : ok = 1
  · rw [if_pos h, h]; rfl
  · rw [if_neg h]
    have : (ok == 1) = false := beq_eq_false_iff_ne.mpr h
    rw [this]; rfl
/-- a telling to do is answered -/
theorem rel_takeD {m : MS} {s : Step} {k ok : Nat} (r : SRel m s) (hk1 : 1 ≤ k) (hk2 : k ≤ m.d.rs.length) (hu8 : m.u.rs ≠ [] → m.d.rs.length ≤ 8) :
    (k ≤ 8 → SRel (m.setTl false (m.d.take k (repl ok))) { s with fates := s.fates.set (k - 1) (if ok = 1 then .well else .ill), done := s.done || ok == 1, last := if k = s.told ∧ s.undo = 0 then (if ok = 1 then .well else .ill) else s.last }) ∧
    (8 < k → SRel (m.setTl false (m.d.take k (repl ok))) { s with done := s.done || ok == 1, last := if k = s.told then (if ok = 1 then .well else .ill) else s.last }) := by
  have hne : m.d.rs ≠ [] := fun z => by rw [z] at hk2; simp at hk2; omega
  obtain ⟨pre0, r0, e0⟩ := snoc_of hne
  constructor
  · intro h8
    refine ⟨r.rule, ?_, r.undo, ?_, ?_, r.undone, fun pre x hu e => ?_, fun pre x hu e => ?_⟩
    · show s.told = (m.d.rs.set (k - 1) _).length
      rw [List.length_set]; exact r.told
    · show s.fates.set _ _ = ((m.d.rs.set (k - 1) (repl ok)).take 8).map fate
      rw [r.fates, ← fate_repl, List.take_set, List.map_set]
    · show (s.done || ok == 1) = (m.d.well || decide (repl ok = 2))
      rw [r.done, well_repl]
    · have hu : m.u.rs = [] := hu
      have e : m.d.rs.set (k - 1) (repl ok) = pre ++ [x] := e
      show (if k = s.told ∧ s.undo = 0 then _ else s.last) = fate x ∧ s.since = m.d.last
      have hu0 : s.undo = 0 := by rw [r.undo, hu]; rfl
      obtain ⟨l1, l2⟩ := r.lastD pre0 r0 hu e0
      refine ⟨?_, l2⟩
      by_cases hk : k = s.told
      · rw [if_pos ⟨hk, hu0⟩, ← fate_repl, set_last e0 (hk.trans r.told) e]
      · rw [if_neg fun z => hk z.1, l1, set_other e0 hk1 (by rw [r.told] at hk; omega) e]
    · have hu : m.u.rs = pre ++ [x] := hu
      have hn : ¬ (k = s.told ∧ s.undo = 0) := fun z => by
        have := z.2
        rw [r.undo, hu, List.length_append] at this
        simp at this
      show (if k = s.told ∧ s.undo = 0 then _ else s.last) = fate x ∧ s.since = m.u.last
      rw [if_neg hn]
      exact r.lastU pre x hu e
  · intro h8
    have hu0 : m.u.rs = [] := by
      apply Decidable.byContradiction
      intro z
      have := hu8 z
      omega
    refine ⟨r.rule, ?_, r.undo, ?_, ?_, r.undone, fun pre x hu e => ?_, fun pre x hu e => ?_⟩
    · show s.told = (m.d.rs.set (k - 1) _).length
      rw [List.length_set]; exact r.told
    · show s.fates = ((m.d.rs.set (k - 1) (repl ok)).take 8).map fate
      rw [r.fates, List.take_set_of_le (by omega)]
    · show (s.done || ok == 1) = (m.d.well || decide (repl ok = 2))
      rw [r.done, well_repl]
    · have e : m.d.rs.set (k - 1) (repl ok) = pre ++ [x] := e
      show (if k = s.told then _ else s.last) = fate x ∧ s.since = m.d.last
      obtain ⟨l1, l2⟩ := r.lastD pre0 r0 hu0 e0
      refine ⟨?_, l2⟩
      by_cases hk : k = s.told
      · rw [if_pos hk, ← fate_repl, set_last e0 (hk.trans r.told) e]
      · rw [if_neg hk, l1, set_other e0 hk1 (by rw [r.told] at hk; omega) e]
    · have hu : m.u.rs = pre ++ [x] := hu
      rw [hu0] at hu
      simp at hu
theorem ansDo {b : MB} {a : Abs} (h : ARel b a) (ok : BOk b) {i k z : Nat} {m : MS} (e : b.steps[i]? = some m) :
    (m.d.isTold k = false → answerDo a i k z = (a, .num (-2))) ∧
    (m.d.isTold k = true → m.old false k z = true → answerDo a i k z = (a, .num 0)) ∧
    (m.d.isTold k = true → m.old false k z = false → (answerDo a i k z).2 = .num 1 ∧ ARel (b.put i (m.setTl false (m.d.take k (repl z)))) (answerDo a i k z).1) := by
  obtain ⟨s, es, est, r⟩ := h.at_ e
  have hm := List.mem_of_getElem? e
  have hu8 : m.u.rs ≠ [] → m.d.rs.length ≤ 8 := fun hz => by
    have hw := ok.way
    by_cases hw2 : b.way = 0 ∨ b.way = 2
    · exact absurd (ok.und hw2 m hm) hz
    · exact ok.le8 (by omega) m hm
  unfold answerDo
  simp only [est]
  refine ⟨fun ht => ?_, fun ht ho => ?_, fun ht ho => ?_⟩
  · rw [if_pos (by rw [r.told]; exact told_iff.mp ht)]
  · have ht' : ¬ (k = 0 ∨ s.told < k) := fun q => by
      rw [r.told] at q
      rw [told_iff.mpr q] at ht; cases ht
    rw [if_neg ht']
    rw [r.told] at ht'
    unfold MS.old at ho
    by_cases hun : m.u.well = true
    · rw [if_pos (by rw [r.undone]; exact hun)]
    · rw [if_neg (by rw [r.undone]; exact hun)]
      rw [if_neg hun] at ho
      have ho : m.oldDo k z = true := ho
      unfold MS.oldDo at ho
      by_cases h8 : k ≤ 8
      · rw [if_pos h8] at ho ⊢
        have : s.fates.getD (k - 1) .ill ≠ .open_ := by
          rw [r.fates, getD_map_fate _ _ (by omega) (by omega)]
          intro q
          rw [fate_open] at q
          unfold MT.isAns at ho
          rw [q] at ho
          simp at ho
        rw [if_pos this]
      · rw [if_neg h8] at ho ⊢
        rw [if_pos]
        by_cases hd : m.d.well = true
        · exact .inl (by rw [r.done]; exact hd)
        · rw [if_neg hd] at ho
          by_cases hl : k = m.d.rs.length
          · rw [if_pos hl] at ho
            refine .inr (.inr ⟨by rw [r.told]; exact hl, fun q => ?_⟩)
            have hne : m.d.rs ≠ [] := fun z => by rw [z] at hl; simp at hl; omega
            obtain ⟨pre, x, ex⟩ := snoc_of hne
            have hu0 : m.u.rs = [] := by
              apply Decidable.byContradiction
              intro z
              have := hu8 z
              omega
            have := (r.lastD pre x hu0 ex).1
            rw [q] at this
            have := fate_open.mp this.symm
            unfold MT.isAns at ho
            rw [hl, last_getD ex, this] at ho
            simp at ho
          · rw [if_neg hl] at ho
            exact .inr (.inl ⟨by rw [r.told]; exact hl, of_decide_eq_true ho⟩)
  · have ht' : ¬ (k = 0 ∨ s.told < k) := fun q => by
      rw [r.told] at q
      rw [told_iff.mpr q] at ht; cases ht
    rw [if_neg ht']
    rw [r.told] at ht'
    unfold MS.old at ho
    by_cases hun : m.u.well = true
    · rw [if_pos hun] at ho; cases ho
    · rw [if_neg (by rw [r.undone]; exact hun)]
      rw [if_neg hun] at ho
      have ho : m.oldDo k z = false := ho
      unfold MS.oldDo at ho
      by_cases h8 : k ≤ 8
      · rw [if_pos h8] at ho ⊢
        have : ¬ s.fates.getD (k - 1) .ill ≠ .open_ := by
          rw [r.fates, getD_map_fate _ _ (by omega) (by omega)]
          intro q
          apply q
          rw [fate_open]
          unfold MT.isAns at ho
          simpa using ho
        rw [if_neg this]
        exact ⟨rfl, h.change e fun s' r' => (rel_takeD r' (by omega) (by omega) hu8).1 h8⟩
      · rw [if_neg h8] at ho ⊢
        by_cases hd : m.d.well = true
        · rw [if_pos hd] at ho; cases ho
        · rw [if_neg hd] at ho
          rw [if_neg]
          · exact ⟨rfl, h.change e fun s' r' => (rel_takeD r' (by omega) (by omega) hu8).2 (by omega)⟩
          · rintro (q | q | q)
            · rw [r.done] at q; exact hd q
            · rw [r.told] at q
              rw [if_neg q.1, decide_eq_true q.2] at ho
              cases ho
            · rw [r.told] at q
              rw [if_pos q.1] at ho
              have hne : m.d.rs ≠ [] := fun z => by rw [z] at ht'; simp at ht'
              obtain ⟨pre, x, ex⟩ := snoc_of hne
              have hu0 : m.u.rs = [] := by
                apply Decidable.byContradiction
                intro z
                have := hu8 z
                omega
              apply q.2
              rw [(r.lastD pre x hu0 ex).1, fate_open]
              unfold MT.isAns at ho
              rw [q.1, last_getD ex] at ho
              simpa using ho
theorem ansUndo {b : MB} {a : Abs} (h : ARel b a) {i k z : Nat} {m : MS} (e : b.steps[i]? = some m) (hz : z ≤ 1) :
    (m.u.isTold k = false → answerUndo a i k z = (a, .num (-2))) ∧
    (m.u.isTold k = true → m.old true k z = true → answerUndo a i k z = (a, .num 0)) ∧
    (m.u.isTold k = true → m.old true k z = false → (answerUndo a i k z).2 = .num 1 ∧ ARel (b.put i (m.setTl true (m.u.take k (repl z)))) (answerUndo a i k z).1) := by
  obtain ⟨s, es, est, r⟩ := h.at_ e
  unfold answerUndo
  simp only [est]
  refine ⟨fun ht => ?_, fun ht ho => ?_, fun ht ho => ?_⟩
  · rw [if_pos (by rw [r.undo]; exact told_iff.mp ht)]
  · have ht' : ¬ (k = 0 ∨ s.undo < k) := fun q => by
      rw [r.undo] at q
      rw [told_iff.mpr q] at ht; cases ht
    rw [if_neg ht']
    rw [r.undo] at ht'
    unfold MS.old at ho
    by_cases hun : m.u.well = true
    · rw [if_pos (by rw [r.undone]; exact hun)]
    · rw [if_neg (by rw [r.undone]; exact hun)]
      rw [if_neg hun, if_pos rfl, Bool.and_eq_true, decide_eq_true_eq] at ho
      rw [if_neg (by omega), if_neg]
      rintro ⟨q1, q2⟩
      rw [r.undo] at q1
      have hne : m.u.rs ≠ [] := fun z => by rw [z] at ht'; simp at ht'
      obtain ⟨pre, x, ex⟩ := snoc_of hne
      have := (r.lastU pre x ex (Bool.eq_false_iff.mpr hun)).1
      rw [q2] at this
      have := fate_open.mp this.symm
      have ho := ho.2
      unfold MT.isAns at ho
      rw [q1, last_getD ex, this] at ho
      simp at ho
  · have ht' : ¬ (k = 0 ∨ s.undo < k) := fun q => by
      rw [r.undo] at q
      rw [told_iff.mpr q] at ht; cases ht
    rw [if_neg ht']
    rw [r.undo] at ht'
    unfold MS.old at ho
    by_cases hun : m.u.well = true
    · rw [if_pos hun] at ho; cases ho
    · rw [if_neg (by rw [r.undone]; exact hun)]
      rw [if_neg hun, if_pos rfl] at ho
      have hne : m.u.rs ≠ [] := fun z => by rw [z] at ht'; simp at ht'
      obtain ⟨pre0, x0, ex0⟩ := snoc_of hne
      have hund : ∀ {p : Prop}, m.u.rs.set (k - 1) (repl z) = [] → p := fun {p} q => by
        have := congrArg List.length q
        rw [List.length_set] at this
        exact absurd (List.eq_nil_of_length_eq_zero this) hne
      by_cases h1 : z = 1
      · rw [if_pos h1]
        refine ⟨rfl, ?_⟩
        dsimp only
        refine h.change (m' := m.setTl true (m.u.take k (repl z))) e ?_
        refine fun s' r' => ⟨r'.rule, r'.told, ?_, r'.fates, r'.done, ?_, fun pre x q _ => absurd q (fun q => hund q), fun pre x _ q => ?_⟩
        · show s'.undo = (m.u.rs.set (k - 1) _).length
          rw [List.length_set]; exact r'.undo
        · show true = (m.u.well || decide (repl z = 2))
          rw [well_repl, h1]; simp
        · have q : (m.u.well || decide (repl z = 2)) = false := q
          rw [well_repl, h1] at q
          simp at q
      · rw [if_neg h1]
        have h0 : z = 0 := by omega
        rw [decide_eq_true h0, Bool.true_and, Bool.or_eq_false_iff] at ho
        have hk : k = m.u.rs.length := by simpa using ho.1
        have hx : x0 = 0 := by
          have := ho.2
          unfold MT.isAns at this
          rw [hk, last_getD ex0] at this
          simpa using this
        have hl := (r.lastU pre0 x0 ex0 (Bool.eq_false_iff.mpr hun)).1
        rw [if_pos ⟨by rw [r.undo]; exact hk, by rw [hl, fate_open]; exact hx⟩]
        refine ⟨rfl, ?_⟩
        dsimp only
        refine h.change (m' := m.setTl true (m.u.take k (repl z))) e ?_
        refine fun s' r' => ⟨r'.rule, r'.told, ?_, r'.fates, r'.done, ?_, fun pre x q _ => hund q, fun pre x q _ => ?_⟩
        · show s'.undo = (m.u.rs.set (k - 1) _).length
          rw [List.length_set]; exact r'.undo
        · show s'.undone = (m.u.well || decide (repl z = 2))
          rw [well_repl, h0, r'.undone]; simp
        · have q : m.u.rs.set (k - 1) (repl z) = pre ++ [x] := q
          rw [set_last ex0 hk q]
          refine ⟨?_, (r'.lastU pre0 x0 ex0 (Bool.eq_false_iff.mpr hun)).2⟩
          show Fate.ill = fate (repl z)
          rw [fate_repl, if_neg h1]
theorem POk.take {b : MB} (h : POk b) {i k r : Nat} {m : MS} {c : Bool} (e : b.steps[i]? = some m) (ht : (m.tl c).isTold k = true) : POk (b.put i (m.setTl c ((m.tl c).take k r))) := by
  have hm := List.mem_of_getElem? e
  have hk : 1 ≤ k ∧ k ≤ (m.tl c).rs.length := by simpa [MT.isTold] using ht
  cases c with
  | false =>
    have hk : 1 ≤ k ∧ k ≤ m.d.rs.length := hk
    have hl : (m.setTl false ((m.tl false).take k r)).d.rs.length = m.d.rs.length := List.length_set ..
    have hne : m.d.rs ≠ [] := fun z => by rw [z] at hk; simp at hk; omega
    refine h.put e rfl (fun z => h.und z m hm) (fun z => by rw [hl]; exact h.le8 z m hm) (fun z q => by rw [hl]; exact h.k0 z m hm q) (fun z _ j n hn hb => h.told z i m e hne j n hn hb) (fun q => ?_) (fun _ q => ?_)
    · show (m.d.well || _) = true
      rw [q]; rfl
    · rw [q] at hl
      exact hne (List.eq_nil_of_length_eq_zero hl.symm)
  | true =>
    have hk : 1 ≤ k ∧ k ≤ m.u.rs.length := hk
    refine h.put e rfl (fun z => ?_) (fun z => h.le8 z m hm) (fun z q => h.k0 z m hm q) (fun z q j n hn hb => h.told z i m e q j n hn hb) id (h.dt m hm)
    have := h.und z m hm
    rw [this] at hk
    simp at hk
    omega
theorem answer_sim {b : MB} {a : Abs} (h : ARel b a) (ok : BOk b) (i what k z : Nat) :
    ARel (b.answer i what k z).1 (act a (.answer i what k z)).1 ∧ BOk (b.answer i what k z).1 ∧ (act a (.answer i what k z)).2 = .num (b.answer i what k z).2 := by
  unfold MB.answer act
  cases e : b.steps[i]? with
  | none =>
    have : b.steps.length ≤ i := List.getElem?_eq_none_iff.mp e
    simp only []
    rw [if_pos (.inl (by rw [h.len]; exact this))]
    exact ⟨h, ok, rfl⟩
  | some m =>
    have hi := lt_of_some e
    simp only []
    by_cases hwz : 1 < what ∨ 1 < z
    · rw [if_pos hwz, if_pos (.inr hwz)]
      exact ⟨h, ok, rfl⟩
    · rw [if_neg hwz, if_neg (show ¬ (a.steps.length ≤ i ∨ 1 < what ∨ 1 < z) by rw [h.len]; omega)]
      by_cases hwh : what = 0
      · rw [if_pos hwh, decide_eq_true hwh, Bool.not_true]
        obtain ⟨A1, A2, A3⟩ := ansDo h ok (k := k) (z := z) e
        have A1 : (m.tl false).isTold k = false → _ := A1
        have A2 : (m.tl false).isTold k = true → _ := A2
        have A3 : (m.tl false).isTold k = true → _ := A3
        cases ht : (m.tl false).isTold k with
        | false =>
          rw [if_pos rfl, A1 ht, if_neg (by intro q; cases q)]
          exact ⟨h, ok, rfl⟩
        | true =>
          rw [if_neg (by simp)]
          cases ho : m.old false k z with
          | true =>
            rw [if_pos rfl, A2 ht ho, if_neg (by intro q; cases q)]
            exact ⟨h, ok, rfl⟩
          | false =>
            rw [if_neg (by simp), if_pos (A3 ht ho).1]
            have P : POk (b.put i (m.setTl false ((m.tl false).take k (repl z)))) := ok.toPOk.take e ht
            exact ⟨rel_settle (A3 ht ho).2 P, P.settle, rfl⟩
      · rw [if_neg hwh, decide_eq_false hwh, Bool.not_false]
        obtain ⟨A1, A2, A3⟩ := ansUndo h (k := k) (z := z) e (by omega)
        have A1 : (m.tl true).isTold k = false → _ := A1
        have A2 : (m.tl true).isTold k = true → _ := A2
        have A3 : (m.tl true).isTold k = true → _ := A3
        cases ht : (m.tl true).isTold k with
        | false =>
          rw [if_pos rfl, A1 ht, if_neg (by intro q; cases q)]
          exact ⟨h, ok, rfl⟩
        | true =>
          rw [if_neg (by simp)]
          cases ho : m.old true k z with
          | true =>
            rw [if_pos rfl, A2 ht ho, if_neg (by intro q; cases q)]
            exact ⟨h, ok, rfl⟩
          | false =>
            rw [if_neg (by simp), if_pos (A3 ht ho).1]
            have P : POk (b.put i (m.setTl true ((m.tl true).take k (repl z)))) := ok.toPOk.take e ht
            exact ⟨rel_settle (A3 ht ho).2 P, P.settle, rfl⟩
theorem tick_sim {b : MB} {a : Abs} (h : ARel b a) (ok : BOk b) (t : Nat) :
    ARel (b.tick t).1 (act a (.tick t)).1 ∧ BOk (b.tick t).1 ∧ (act a (.tick t)).2 = .num (b.tick t).2 := by
  unfold MB.tick act
  simp only []
  by_cases ht : 65535 < t
  · rw [if_pos ht, if_pos ht]
    exact ⟨h, ok, rfl⟩
  · rw [if_neg ht, if_neg ht]
    have R : ARel { b with now := b.now + t } { a with now := a.now + t } := ⟨by show a.now + t = b.now + t; rw [h.now], h.how, h.len, h.st⟩
    have P : POk { b with now := b.now + t } := ⟨ok.way, ok.good, ok.und, ok.le8, ok.k0, ok.told, ok.dt⟩
    have R2 := rel_settle R P
    refine ⟨R2, P.settle, ?_⟩
    show Ans.num ((howNumber (settled { a with now := a.now + t }).how : Nat) : Int) = _
    rw [R2.how]
theorem halt_sim {b : MB} {a : Abs} (h : ARel b a) (ok : BOk b) :
    ARel b.halt.1 (act a .halt_).1 ∧ BOk b.halt.1 ∧ (act a .halt_).2 = .num b.halt.2 := by
  unfold MB.halt act
  simp only []
  by_cases hw : b.way = 0
  · have ha := (on_iff h).mpr hw
    rw [if_neg (show ¬ b.way ≠ 0 from fun q => q hw), if_neg (show ¬ a.how ≠ .on from fun q => q ha)]
    have ep : (a.steps.any fun s => s.rule.kind == 1 && decide (0 < s.told)) = b.steps.any MS.pointTold := any_rel h fun m hm s r => by
      rw [r.rule, r.told]; rfl
    rw [ep]
    by_cases hp : b.steps.any MS.pointTold = true
    · rw [if_pos hp, if_pos hp]
      exact ⟨h, ok, rfl⟩
    · rw [if_neg hp, if_neg hp]
      have h8 := ok.toPOk.le8_of hw (.inr fun m hm => by
        cases q : m.pointTold with
        | false => rfl
        | true => exact absurd (List.any_eq_true.mpr ⟨m, hm, q⟩) hp)
      have P : POk { b with way := 1 } := ⟨by show (1 : Nat) ≤ 3; decide, ok.good, fun z => (by rcases z with z | z <;> cases z), fun _ => h8, fun z => (by cases z), fun z => (by cases z), ok.dt⟩
      exact ⟨rel_settle (h.way (n := 1) (w := .back) rfl) P, P.settle, rfl⟩
  · have ha : a.how ≠ .on := fun z => hw ((on_iff h).mp z)
    rw [if_pos hw, if_pos ha]
    exact ⟨h, ok, rfl⟩
theorem step_sim {b : MB} {a : Abs} (h : ARel b a) (i : Nat) : (act a (.step i)).1 = a ∧ b.step i = Kp180Neutral.wrKp180_Ans (act a (.step i)).2 := by
  refine ⟨rfl, ?_⟩
  unfold MB.step act
  cases e : b.steps[i]? with
  | none =>
    have : b.steps.length ≤ i := List.getElem?_eq_none_iff.mp e
    simp only []
    rw [if_pos (by rw [h.len]; exact this)]
    rfl
  | some m =>
    have hi := lt_of_some e
    obtain ⟨s, es, est, r⟩ := h.at_ e
    simp only [est]
    rw [if_neg (by rw [h.len]; omega), r.told, r.undo, r.undone, r.done]
    rfl
/-! ### how long the lists grow -/
noncomputable def Len (b : MB) (c : Nat) : Prop := ∀ m ∈ b.steps, m.d.rs.length ≤ c ∧ m.u.rs.length ≤ c
theorem Len.mono {b : MB} {c c' : Nat} (h : Len b c) (hc : c ≤ c') : Len b c' := fun m hm => ⟨Nat.le_trans (h m hm).1 hc, Nat.le_trans (h m hm).2 hc⟩
theorem Len.put {b : MB} {c i : Nat} {m' : MS} (h : Len b c) (h1 : m'.d.rs.length ≤ c) (h2 : m'.u.rs.length ≤ c) : Len (b.put i m') c := fun m hm => by
  rcases put_mem hm with rfl | hm
  · exact ⟨h1, h2⟩
  · exact h m hm
theorem Len.next {b : MB} {c : Nat} (h : Len b c) : Len b.next.1 (c + 1) := by
  unfold MB.next
  split
  · exact h.mono (by omega)
  · split
    · exact h.mono (by omega)
    · rename_i i _ m e
      have hm := h m (List.mem_of_getElem? e)
      cases b.what with
      | false => exact (h.mono (by omega)).put (by show (m.d.rs ++ [0]).length ≤ _; rw [List.length_append]; show m.d.rs.length + 1 ≤ _; omega) (by show m.u.rs.length ≤ _; omega)
      | true => exact (h.mono (by omega)).put (by show m.d.rs.length ≤ _; omega) (by show (m.u.rs ++ [0]).length ≤ _; rw [List.length_append]; show m.u.rs.length + 1 ≤ _; omega)
theorem Len.answer {b : MB} {c i what k z : Nat} (h : Len b c) : Len (b.answer i what k z).1 c := by
  unfold MB.answer
  split
  · exact h
  · rename_i m e
    have hm := h m (List.mem_of_getElem? e)
    split
    · exact h
    · split
      · exact h
      · split
        · exact h
        · cases (!decide (what = 0)) with
          | false => exact h.put (by show (m.d.rs.set _ _).length ≤ _; rw [List.length_set]; exact hm.1) hm.2
          | true => exact h.put hm.1 (by show (m.u.rs.set _ _).length ≤ _; rw [List.length_set]; exact hm.2)
theorem Len.tick {b : MB} {c t : Nat} (h : Len b c) : Len (b.tick t).1 c := by
  unfold MB.tick
  split
  · exact h
  · exact h
theorem Len.halt {b : MB} {c : Nat} (h : Len b c) : Len b.halt.1 c := by
  unfold MB.halt
  split
  · exact h
  · split
    · exact h
    · exact h
end LD
namespace LD
open Kp180
/-! ### the rows of a start -/
noncomputable def ruleR (m : MS) : Rule := ⟨m.needs, m.wait, m.tries, m.kind⟩
noncomputable def ruleC (l : List Int) : Rule := ⟨(l.getD 0 0).toNat, (l.getD 1 0).toNat, (l.getD 2 0).toNat, (l.getD 3 0).toNat⟩
theorem chunks_eq : ∀ (f : Nat) (l : List Int), l.length ≤ f → l.length % 4 = 0 → (Kp180Neutral.chunksBy 4 f l).map ruleC =
    (List.range (l.length / 4)).map fun i => (⟨(l.getD (4 * i) 0).toNat, (l.getD (4 * i + 1) 0).toNat, (l.getD (4 * i + 2) 0).toNat, (l.getD (4 * i + 3) 0).toNat⟩ : Rule)
  | 0, l, h, _ => by
    have : l = [] := List.eq_nil_of_length_eq_zero (by omega)
    subst this; rfl
  | f + 1, l, h, h4 => by
    unfold Kp180Neutral.chunksBy
    by_cases e : l = []
    · rw [if_pos e]; subst e; rfl
    · rw [if_neg e]
      have hl : 4 ≤ l.length := by
        have : l.length ≠ 0 := fun z => e (List.eq_nil_of_length_eq_zero z)
        omega
      have hd : (l.drop 4).length = l.length - 4 := List.length_drop ..
      have ih := chunks_eq f (l.drop 4) (by omega) (by omega)
      rw [List.map_cons, ih, hd]
      have e2 : l.length / 4 = (l.length - 4) / 4 + 1 := by omega
      rw [e2, List.range_succ_eq_map, List.map_cons, List.map_map]
      have ht : ∀ j, j < 4 → (l.take 4).getD j 0 = l.getD j 0 := fun j hj => by
        rw [List.getD_eq_getElem?_getD, List.getElem?_take, if_pos hj, List.getD_eq_getElem?_getD]
      have hdr : ∀ j, (l.drop 4).getD j 0 = l.getD (4 + j) 0 := fun j => by
        rw [List.getD_eq_getElem?_getD, List.getElem?_drop, List.getD_eq_getElem?_getD]
      congr 1
      · unfold ruleC
        rw [ht 0 (by omega), ht 1 (by omega), ht 2 (by omega), ht 3 (by omega)]
      · apply List.map_congr_left
        intro i _
        simp only [Function.comp, hdr]
        have a0 : 4 + 4 * i = 4 * (i + 1) := by omega
        have a1 : 4 + (4 * i + 1) = 4 * (i + 1) + 1 := by omega
        have a2 : 4 + (4 * i + 2) = 4 * (i + 1) + 2 := by omega
        have a3 : 4 + (4 * i + 3) = 4 * (i + 1) + 3 := by omega
        rw [a0, a1, a2, a3]
theorem parse_rules (r : List Int) (h : r.length % 4 = 0) : (Kp180Neutral.chunks 4 r).map ruleC = (parse r).map ruleR := by
  unfold Kp180Neutral.chunks
  rw [chunks_eq r.length r (Nat.le_refl _) h]
  unfold parse
  rw [List.map_map]
  rfl
/-! ### fit and good -/
theorem allI_iff {f : Nat → MS → Bool} {ms : List MS} : allI f ms = true ↔ ∀ (i : Nat) (m : MS), ms[i]? = some m → f i m = true := by
  unfold allI
  rw [List.all_eq_true]
  constructor
  · intro h i m e
    have := h i (List.mem_range.mpr (lt_of_some e))
    rw [e] at this
    exact this
  · intro h i hi
    cases e : ms[i]? with
    | none => rfl
    | some m => exact h i m e
theorem zip_iff {l : List Rule} {p : Rule × Nat → Bool} : l.zipIdx.all p = true ↔ ∀ (i : Nat) (r : Rule), l[i]? = some r → p (r, i) = true := by
  rw [List.all_eq_true]
  constructor
  · intro h i r e
    refine h (r, i) (List.mem_of_getElem? (i := i) ?_)
    rw [List.getElem?_zipIdx, e]
    simp
  · intro h x hx
    obtain ⟨i, hi⟩ := List.mem_iff_getElem?.mp hx
    rw [List.getElem?_zipIdx] at hi
    cases e : l[i]? with
    | none => rw [e] at hi; cases hi
    | some r =>
      rw [e] at hi
      have : (r, 0 + i) = x := Option.some.inj hi
      rw [← this, Nat.zero_add]
      exact h i r e
theorem ruleAt {ms : List MS} {i : Nat} {r : Rule} : (ms.map ruleR)[i]? = some r ↔ ∃ m, ms[i]? = some m ∧ ruleR m = r := by
  rw [List.getElem?_map]
  cases ms[i]? with
  | none => simp
  | some m => simp
theorem kinds_mem {ms : List MS} {k i : Nat} : i ∈ kindsOf (ms.map ruleR) k ↔ ∃ m, ms[i]? = some m ∧ m.kind = k := by
  unfold kindsOf
  rw [List.mem_filter, List.mem_range, List.length_map, List.getElem?_map]
  constructor
  · rintro ⟨_, h⟩
    cases e : ms[i]? with
    | none => rw [e] at h; cases h
    | some m => rw [e] at h; exact ⟨m, rfl, by simpa [ruleR] using h⟩
  · rintro ⟨m, e, rfl⟩
    refine ⟨lt_of_some e, ?_⟩
    rw [e]
    simp [ruleR]
theorem points_eq (ms : List MS) : kindsOf (ms.map ruleR) 1 = points ms := by
  unfold kindsOf points
  rw [List.length_map]
  apply List.filter_congr
  intro i _
  rw [List.getElem?_map]
  cases ms[i]? with
  | none => rfl
  | some m => rfl
noncomputable def gFold (n : Nat) (acc : List Nat) : Nat → Nat
  | 0 => 0
  | k + 1 => if n.testBit k then (gFold n acc k ||| 2 ^ k) ||| acc.getD k 0 else gFold n acc k
theorem gFold_eq (r : Rule) (acc : List Nat) : ∀ k, (List.range k).foldl (fun m j => if Kp180.needs r j then (m ||| 2 ^ j) ||| acc.getD j 0 else m) 0 = gFold r.needs acc k
  | 0 => rfl
  | k + 1 => by
    rw [List.range_succ, List.foldl_append, gFold_eq r acc k]
    rfl
theorem gFold_bit {n : Nat} {acc : List Nat} {q : Nat} (hq : n.testBit q = true) : ∀ k, q < k → (gFold n acc k).testBit q = true
  | 0, h => by omega
  | k + 1, h => by
    unfold gFold
    by_cases e : q = k
    · subst e
      rw [if_pos hq, Nat.testBit_or, Nat.testBit_or, Nat.testBit_two_pow_self]
      simp
    · have ih := gFold_bit (acc := acc) hq k (by omega)
      split
      · rw [Nat.testBit_or, Nat.testBit_or, ih]; simp
      · exact ih
theorem or_absorb {n k : Nat} (h : n.testBit k = true) : n ||| 2 ^ k = n := by
  apply Nat.eq_of_testBit_eq
  intro q
  rw [Nat.testBit_or, Nat.testBit_two_pow]
  by_cases e : k = q
  · subst e; rw [h]; rfl
  · rw [decide_eq_false e, Bool.or_false]
theorem reachN_eq (n : Nat) (acc : List Nat) : ∀ k, reachN n acc k = n ||| gFold n acc k
  | 0 => by simp [reachN, gFold]
  | k + 1 => by
    unfold reachN gFold
    rw [reachN_eq n acc k]
    cases h : n.testBit k with
    | false => simp
    | true =>
      simp only [if_true]
      rw [← Nat.or_assoc, ← Nat.or_assoc]
      congr 1
      rw [Nat.or_assoc, Nat.or_comm (gFold n acc k), ← Nat.or_assoc, or_absorb h]
theorem reachN_fold {n : Nat} (acc : List Nat) {k : Nat} (h : n < 2 ^ k) : reachN n acc k = gFold n acc k := by
  rw [reachN_eq]
  apply Nat.eq_of_testBit_eq
  intro q
  rw [Nat.testBit_or]
  cases e : n.testBit q with
  | false => simp
  | true => rw [gFold_bit e k (bit_lt h e)]; rfl
theorem reachTo_some {ms : List MS} {k : Nat} {m : MS} (e : ms[k]? = some m) : reachTo ms (k + 1) = reachTo ms k ++ [reachN m.needs (reachTo ms k) k] := by
  show (match ms[k]? with
    | some m => reachTo ms k ++ [reachN m.needs (reachTo ms k) k]
    | none => reachTo ms k) = _
  rw [e]
theorem reachTo_len (ms : List MS) : ∀ k, k ≤ ms.length → (reachTo ms k).length = k
  | 0, _ => rfl
  | k + 1, h => by
    unfold reachTo
    rw [List.getElem?_eq_getElem (by omega)]
    simp [reachTo_len ms k (by omega)]
theorem before_eq (ms : List MS) (h : ∀ (i : Nat) (m : MS), ms[i]? = some m → m.needs < 2 ^ i) : ∀ k, k ≤ ms.length → before ((ms.map ruleR).take k) = reachTo ms k
  | 0, _ => rfl
  | k + 1, hk => by
    have ih := before_eq ms h k (by omega)
    have hl : k < (ms.map ruleR).length := by rw [List.length_map]; omega
    have em : ms[k]? = some ms[k] := List.getElem?_eq_getElem (by omega)
    rw [List.take_succ_eq_append_getElem hl]
    unfold before at ih ⊢
    rw [List.foldl_append, ih]
    show reachTo ms k ++ [(List.range (reachTo ms k).length).foldl _ 0] = _
    rw [reachTo_len ms k (by omega), gFold_eq, List.getElem_map]
    rw [reachTo_some em]
    show reachTo ms k ++ [gFold (ms[k]).needs (reachTo ms k) k] = reachTo ms k ++ [reachN (ms[k]).needs (reachTo ms k) k]
    rw [reachN_fold _ (h k _ em)]
theorem before_all (ms : List MS) (h : ∀ (i : Nat) (m : MS), ms[i]? = some m → m.needs < 2 ^ i) : before (ms.map ruleR) = reachTo ms ms.length := by
  have := before_eq ms h ms.length (Nat.le_refl _)
  rwa [List.take_of_length_le (by rw [List.length_map]; exact Nat.le_refl _)] at this
theorem fitS_iff {i : Nat} {m : MS} : fitS i m = true ↔ m.needs < 2 ^ i ∧ 1 ≤ m.wait ∧ m.wait ≤ 65535 ∧ 1 ≤ m.tries ∧ m.tries ≤ 8 ∧ m.kind ≤ 2 := by
  unfold fitS
  simp only [Bool.and_eq_true, decide_eq_true_eq]
  rw [shift_zero]
  constructor
  · rintro ⟨⟨⟨h1, h2, h3⟩, h4, h5⟩, h6⟩; exact ⟨h1, h2, h3, h4, h5, h6⟩
  · rintro ⟨h1, h2, h3, h4, h5, h6⟩; exact ⟨⟨⟨h1, h2, h3⟩, h4, h5⟩, h6⟩
theorem kindFit_iff {ms : List MS} {p i : Nat} {m : MS} : kindFit ms p i m = true ↔ (m.kind = 0 → ((reachTo ms ms.length).getD p 0).testBit i = true) ∧ (m.kind = 2 → ((reachTo ms ms.length).getD i 0).testBit p = true) := by
  unfold kindFit
  by_cases h0 : m.kind = 0
  · simp [h0]
  · by_cases h2 : m.kind = 2
    · simp [h2]
    · simp [h0, h2]
theorem fit_good (ms : List MS) : fit ms = true ↔ ms.length ≤ 32 ∧ good (ms.map ruleR) = true := by
  unfold fit good
  rw [List.length_map]
  by_cases hl : 1 ≤ ms.length ∧ ms.length ≤ 32
  · rw [if_pos hl, decide_eq_true hl.1]
    have h32 : decide (ms.length ≤ STEPS) = true := decide_eq_true hl.2
    rw [h32, Bool.true_and, Bool.true_and]
    have hz : ((ms.map ruleR).zipIdx.all fun z => decide (z.1.needs < 2 ^ z.2) && decide (1 ≤ z.1.tries) && decide (z.1.tries ≤ 8) && decide (1 ≤ z.1.wait) && decide (z.1.wait ≤ 65535) && decide (z.1.kind ≤ 2)) = allI fitS ms := by
      rw [Bool.eq_iff_iff, zip_iff, allI_iff]
      constructor
      · intro h i m e
        have this : (decide (m.needs < 2 ^ i) && decide (1 ≤ m.tries) && decide (m.tries ≤ 8) && decide (1 ≤ m.wait) && decide (m.wait ≤ 65535) && decide (m.kind ≤ 2)) = true := h i (ruleR m) (ruleAt.mpr ⟨m, e, rfl⟩)
        simp only [Bool.and_eq_true, decide_eq_true_eq] at this
        exact fitS_iff.mpr ⟨this.1.1.1.1.1, this.1.1.2, this.1.2, this.1.1.1.1.2, this.1.1.1.2, this.2⟩
      · intro h i r e
        obtain ⟨m, em, rfl⟩ := ruleAt.mp e
        have := fitS_iff.mp (h i m em)
        show (decide (m.needs < 2 ^ i) && decide (1 ≤ m.tries) && decide (m.tries ≤ 8) && decide (1 ≤ m.wait) && decide (m.wait ≤ 65535) && decide (m.kind ≤ 2)) = true
        simp only [Bool.and_eq_true, decide_eq_true_eq]
        exact ⟨⟨⟨⟨⟨this.1, this.2.2.2.1⟩, this.2.2.2.2.1⟩, this.2.1⟩, this.2.2.1⟩, this.2.2.2.2.2⟩
    rw [hz]
    by_cases ha : allI fitS ms = true
    · rw [if_pos ha, ha, Bool.true_and]
      have hS := fun i m e => fitS_iff.mp (allI_iff.mp ha i m e)
      have hb := before_all ms fun i m e => (hS i m e).1
      unfold goodPoint
      rw [points_eq]
      have main : ∀ p, ((kindsOf (ms.map ruleR) 0).all (needsAtAll (ms.map ruleR) p) && (kindsOf (ms.map ruleR) 2).all fun i => needsAtAll (ms.map ruleR) i p) = allI (kindFit ms p) ms := fun p => by
        rw [Bool.eq_iff_iff, Bool.and_eq_true, List.all_eq_true, List.all_eq_true, allI_iff]
        unfold needsAtAll
        rw [hb]
        constructor
        · rintro ⟨g0, g2⟩ i m e
          exact kindFit_iff.mpr ⟨fun k => g0 i (kinds_mem.mpr ⟨m, e, k⟩), fun k => g2 i (kinds_mem.mpr ⟨m, e, k⟩)⟩
        · intro g
          refine ⟨fun i hi => ?_, fun i hi => ?_⟩
          · obtain ⟨m, e, k⟩ := kinds_mem.mp hi
            exact (kindFit_iff.mp (g i m e)).1 k
          · obtain ⟨m, e, k⟩ := kinds_mem.mp hi
            exact (kindFit_iff.mp (g i m e)).2 k
      match hp : points ms with
      | [] =>
        simp only []
        rw [List.all_eq_true, List.isEmpty_iff]
        refine ⟨fun h => ⟨hl.2, ?_⟩, fun h m hm => ?_⟩
        · cases hk : kindsOf (ms.map ruleR) 2 with
          | nil => rfl
          | cons i t =>
            obtain ⟨m, e, k⟩ := kinds_mem.mp (show i ∈ kindsOf (ms.map ruleR) 2 by rw [hk]; exact List.mem_cons_self ..)
            have := of_decide_eq_true (h m (List.mem_of_getElem? e))
            omega
        · obtain ⟨i, e⟩ := List.mem_iff_getElem?.mp hm
          have k2 := (hS i m e).2.2.2.2.2
          have n1 : m.kind ≠ 1 := fun z => by
            have : i ∈ kindsOf (ms.map ruleR) 1 := kinds_mem.mpr ⟨m, e, z⟩
            rw [points_eq, hp] at this
            cases this
          have n2 : m.kind ≠ 2 := fun z => by
            have : i ∈ kindsOf (ms.map ruleR) 2 := kinds_mem.mpr ⟨m, e, z⟩
            rw [h.2] at this
            cases this
          exact decide_eq_true (by omega)
      | [p] =>
        simp only []
        rw [main p]
        exact ⟨fun h => ⟨hl.2, h⟩, fun h => h.2⟩
      | _ :: _ :: _ => simp
    · rw [if_neg ha, Bool.eq_false_iff.mpr ha]
      simp
  · rw [if_neg hl]
    constructor
    · intro h; cases h
    · rintro ⟨h1, h2⟩
      simp only [Bool.and_eq_true, decide_eq_true_eq] at h2
      exact absurd ⟨h2.1.1.1, h1⟩ hl
theorem reachTo_at (ms : List MS) {i : Nat} {m : MS} (e : ms[i]? = some m) : ∀ k, i < k → k ≤ ms.length → (reachTo ms k).getD i 0 = reachN m.needs (reachTo ms i) i
  | 0, h, _ => by omega
  | k + 1, h, hk => by
    have ek : ms[k]? = some ms[k] := List.getElem?_eq_getElem (by omega)
    rw [reachTo_some ek]
    have hl := reachTo_len ms k (by omega)
    by_cases hi : i = k
    · subst hi
      rw [ek] at e
      have := Option.some.inj e
      rw [List.getD_eq_getElem?_getD, List.getElem?_append_right (by omega), hl, Nat.sub_self, this]
      rfl
    · rw [List.getD_eq_getElem?_getD, List.getElem?_append_left (by omega), ← List.getD_eq_getElem?_getD]
      exact reachTo_at ms e k (by omega) (by omega)
theorem reachN_bit {n : Nat} {acc : List Nat} {q : Nat} : ∀ k, (reachN n acc k).testBit q = true → n.testBit q = true ∨ ∃ j, j < k ∧ n.testBit j = true ∧ (acc.getD j 0).testBit q = true
  | 0, h => .inl h
  | k + 1, h => by
    unfold reachN at h
    by_cases hb : n.testBit k = true
    · rw [if_pos hb, Nat.testBit_or, Bool.or_eq_true] at h
      rcases h with h | h
      · rcases reachN_bit k h with h | ⟨j, h1, h2⟩
        · exact .inl h
        · exact .inr ⟨j, by omega, h2⟩
      · exact .inr ⟨k, by omega, hb, h⟩
    · rw [if_neg hb] at h
      rcases reachN_bit k h with h | ⟨j, h1, h2⟩
      · exact .inl h
      · exact .inr ⟨j, by omega, h2⟩
theorem reach_rch (ms : List MS) : ∀ (n i q : Nat) (m : MS), i ≤ n → ms[i]? = some m → ((reachTo ms ms.length).getD i 0).testBit q = true → Rch ms i q
  | n, i, q, m, hn, e, h => by
    have hi := lt_of_some e
    rw [reachTo_at ms e ms.length hi (Nat.le_refl _)] at h
    rcases reachN_bit i h with h | ⟨j, h1, h2, h3⟩
    · exact .one e h
    · have ej : ms[j]? = some ms[j] := List.getElem?_eq_getElem (by omega)
      refine .more e h2 ?_
      match n, hn with
      | 0, hn => omega
      | n + 1, hn =>
        refine reach_rch ms n j q _ (by omega) ej ?_
        rw [reachTo_at ms ej ms.length (by omega) (Nat.le_refl _)]
        rw [reachTo_at ms ej i h1 (by omega)] at h3
        exact h3
theorem points_mem {ms : List MS} {i : Nat} : i ∈ points ms ↔ ∃ m, ms[i]? = some m ∧ m.kind = 1 := by
  rw [← points_eq]; exact kinds_mem
theorem fit_ok {ms : List MS} (h : fit ms = true) : GOk ms ∧ ms.length ≤ 32 := by
  unfold fit at h
  by_cases hl : 1 ≤ ms.length ∧ ms.length ≤ 32
  · rw [if_pos hl] at h
    by_cases ha : allI fitS ms = true
    · rw [if_pos ha] at h
      have hS := fun i m e => fitS_iff.mp (allI_iff.mp ha i m e)
      have hM : ∀ m ∈ ms, 1 ≤ m.wait ∧ 1 ≤ m.tries ∧ m.tries ≤ 8 ∧ m.kind ≤ 2 := fun m hm => by
        obtain ⟨i, e⟩ := List.mem_iff_getElem?.mp hm
        obtain ⟨_, h1, _, h2, h3, h4⟩ := hS i m e
        exact ⟨h1, h2, h3, h4⟩
      refine ⟨⟨fun i m e => (hS i m e).1, fun m hm => (hM m hm).1, fun m hm => (hM m hm).2.1, fun m hm => (hM m hm).2.2.1, fun m hm => (hM m hm).2.2.2, fun i j m n hm hn k k' => ?_, fun i j m n hm hn k k' => ?_, fun i m hm k => ?_⟩, hl.2⟩
      · have h1 := points_mem.mpr ⟨m, hm, k⟩
        have h2 := points_mem.mpr ⟨n, hn, k'⟩
        match hp : points ms with
        | [] => rw [hp] at h1; cases h1
        | [p] =>
          rw [hp, List.mem_singleton] at h1 h2
          exact h1.trans h2.symm
        | _ :: _ :: _ => rw [hp] at h; cases h
      · have h1 := points_mem.mpr ⟨m, hm, k⟩
        match hp : points ms with
        | [] => rw [hp] at h1; cases h1
        | [p] =>
          rw [hp, List.mem_singleton] at h1
          subst h1
          rw [hp] at h
          have h : allI (kindFit ms i) ms = true := h
          have := (kindFit_iff.mp (allI_iff.mp h j n hn)).1 k'
          exact reach_rch ms i i j m (Nat.le_refl _) hm this
        | _ :: _ :: _ => rw [hp] at h; cases h
      · match hp : points ms with
        | [] =>
          rw [hp] at h
          have h : (ms.all fun m => decide (m.kind = 0)) = true := h
          have := of_decide_eq_true (List.all_eq_true.mp h m (List.mem_of_getElem? hm))
          omega
        | [p] =>
          obtain ⟨n, hn, k1⟩ := points_mem.mp (show p ∈ points ms by rw [hp]; exact List.mem_singleton.mpr rfl)
          rw [hp] at h
          have h : allI (kindFit ms p) ms = true := h
          have := (kindFit_iff.mp (allI_iff.mp h i m hm)).2 k
          exact ⟨p, n, hn, k1, reach_rch ms i i p m (Nat.le_refl _) hm this⟩
        | _ :: _ :: _ => rw [hp] at h; cases h
    · rw [if_neg ha] at h; cases h
  · rw [if_neg hl] at h; cases h
theorem parse_new {r : List Int} {m : MS} (h : m ∈ parse r) : ∃ n w t k, m = newS n w t k := by
  unfold parse at h
  obtain ⟨i, _, rfl⟩ := List.mem_map.mp h
  exact ⟨_, _, _, _, rfl⟩
theorem begun_ok {r : List Int} (h : fit (parse r) = true) : ARel ⟨parse r, 0, 0⟩ (begun ((parse r).map ruleR)) ∧ BOk ⟨parse r, 0, 0⟩ := by
  obtain ⟨g, hl⟩ := fit_ok h
  refine ⟨⟨rfl, rfl, ?_, fun i m s hm hs => ?_⟩, ?_⟩
  · show (((parse r).map ruleR).map _).length = (parse r).length
    rw [List.length_map, List.length_map]
  · have hs : (((parse r).map ruleR).map fun r => (⟨r, 0, 0, 0, [], .open_, false, false⟩ : Step))[i]? = some s := hs
    rw [List.getElem?_map, List.getElem?_map, hm] at hs
    have := Option.some.inj hs
    obtain ⟨a, b, c, d, rfl⟩ := parse_new (List.mem_of_getElem? hm)
    subst this
    refine ⟨rfl, rfl, rfl, rfl, rfl, rfl, fun pre x _ e => ?_, fun pre x e _ => ?_⟩
    · have e : ([] : List Nat) = pre ++ [x] := e
      simp at e
    · have e : ([] : List Nat) = pre ++ [x] := e
      simp at e
  · refine { way := by show (0 : Nat) ≤ 3; decide, good := g, und := fun _ m hm => ?_, le8 := fun z => (by rcases z with z | z <;> cases z), k0 := fun _ m hm _ => ?_, told := fun _ i m hm ht => ?_, dt := fun m hm hw => ?_, ng := fun _ m hm => ?_ }
    · obtain ⟨a, b, c, d, rfl⟩ := parse_new hm; rfl
    · obtain ⟨a, b, c, d, rfl⟩ := parse_new hm; exact Nat.zero_le _
    · obtain ⟨a, b, c, d, rfl⟩ := parse_new (List.mem_of_getElem? hm)
      exact absurd rfl ht
    · obtain ⟨a, b, c, d, rfl⟩ := parse_new hm; cases hw
    · have h1 := g.tri1 m hm
      obtain ⟨a, b, c, d, rfl⟩ := parse_new hm
      have h1 : 1 ≤ c := h1
      show (!false && !decide (d = 2) && decide (0 = c) && _ && _) = false
      rw [decide_eq_false (show ¬ 0 = c by omega)]
      simp
end LD
namespace LD
open Kp180
noncomputable def DRel : Option MB → Option Abs → Prop
  | none, none => True
  | some b, some a => ARel b a ∧ BOk b
  | _, _ => False
theorem start_iff {r : List Int} (h : r.length % 4 = 0) {rs : List Rule} (e : rs = (Kp180Neutral.chunks 4 r).map ruleC) : (rs.length ≤ STEPS ∧ good (if rs.length ≤ 32 then rs else []) = true) ↔ fit (parse r) = true := by
  rw [parse_rules r h] at e
  subst e
  rw [fit_good, List.length_map]
  constructor
  · rintro ⟨h1, h2⟩
    have h1 : (parse r).length ≤ 32 := h1
    rw [if_pos h1] at h2
    exact ⟨h1, h2⟩
  · rintro ⟨h1, h2⟩
    exact ⟨h1, by rw [if_pos h1]; exact h2⟩
theorem act_start {r : List Int} (h : r.length % 4 = 0) (a : Abs) {rs : List Rule} (e : rs = (Kp180Neutral.chunks 4 r).map ruleC) :
    act a (.start (if rs.length ≤ 32 then rs else []) rs.length) = if fit (parse r) = true then (begun ((parse r).map ruleR), .num 0) else (a, .num (-22)) := by
  have i := start_iff h e
  unfold act
  simp only []
  by_cases hf : fit (parse r) = true
  · have h2 := i.mpr hf
    have h1 : rs.length ≤ 32 := h2.1
    rw [if_pos hf, if_pos h2, if_pos h1, e, parse_rules r h]
  · rw [if_neg hf, if_neg fun z => hf (i.mp z)]
/-- the calls as they may stand -/
inductive CS : List (List Int) → Prop
  | start (r : List Int) : CS [[0], r]
  | next : CS [[1]]
  | answer (i w k z : Int) : CS [[2, i, w, k, z]]
  | tick (t : Int) : CS [[3, t]]
  | halt : CS [[4]]
  | how : CS [[5]]
  | step (i : Int) : CS [[6, i]]
theorem onB_some {b : MB} {f : MB → MB × List Int} : onB (some b) f = (some (f b).1, (f b).2) := rfl
theorem asked_row {r : List Int} (h : Kp180Neutral.asked1 [[0], r] = true) : r.length % 4 = 0 := by
  have h : (decide (r.length % 4 = 0) && _) = true := h
  exact of_decide_eq_true (Bool.and_eq_true_iff.mp h).1
theorem start_sim {o : Option MB} {s : Option Abs} {r : List Int} {x : Call} (h : DRel o s) (h4 : r.length % 4 = 0) (hc : Kp180Neutral.callOf [[0], r] = some x) :
    DRel (numAns (startM o r)).1 (Kp180Neutral.does s x).1 ∧ (numAns (startM o r)).2 = Kp180Neutral.wrKp180_Ans (Kp180Neutral.does s x).2 := by
  have hx : x = .start (if ((Kp180Neutral.chunks 4 r).map ruleC).length ≤ 32 then (Kp180Neutral.chunks 4 r).map ruleC else []) ((Kp180Neutral.chunks 4 r).map ruleC).length := (Option.some.inj hc).symm
  have as := fun a => act_start h4 a (rs := (Kp180Neutral.chunks 4 r).map ruleC) rfl
  rw [← hx] at as
  have st : Kp180Neutral.starts x = true := by rw [hx]; rfl
  unfold numAns startM
  by_cases hf : fit (parse r) = true
  · obtain ⟨R, B⟩ := begun_ok hf
    rw [if_pos hf]
    cases s with
    | none =>
      show DRel (some _) (if Kp180Neutral.starts x = true then _ else _ : Kp180Neutral.S × Ans).1 ∧ _ = Kp180Neutral.wrKp180_Ans (if Kp180Neutral.starts x = true then _ else _ : Kp180Neutral.S × Ans).2
      rw [if_pos st, as, if_pos hf]
      exact ⟨⟨R, B⟩, rfl⟩
    | some a =>
      show DRel (some _) (some (act a x).1) ∧ _ = Kp180Neutral.wrKp180_Ans (act a x).2
      rw [as, if_pos hf]
      exact ⟨⟨R, B⟩, rfl⟩
  · rw [if_neg hf]
    cases s with
    | none =>
      show DRel o (if Kp180Neutral.starts x = true then _ else _ : Kp180Neutral.S × Ans).1 ∧ _ = Kp180Neutral.wrKp180_Ans (if Kp180Neutral.starts x = true then _ else _ : Kp180Neutral.S × Ans).2
      rw [if_pos st, as, if_neg hf]
      exact ⟨h, rfl⟩
    | some a =>
      show DRel o (some (act a x).1) ∧ _ = Kp180Neutral.wrKp180_Ans (act a x).2
      rw [as, if_neg hf]
      exact ⟨h, rfl⟩
theorem both_some {o : Option MB} {s : Option Abs} {x : Call} (h : DRel o s) (hm : Kp180Neutral.may s x = true) (hs : Kp180Neutral.starts x = false) : ∃ b a, o = some b ∧ s = some a ∧ ARel b a ∧ BOk b := by
  cases s with
  | none =>
    have hm : ((false || Kp180Neutral.starts x) && _) = true := hm
    rw [hs] at hm
    cases hm
  | some a =>
    cases o with
    | none => exact absurd h id
    | some b => exact ⟨b, a, rfl, rfl, h.1, h.2⟩
theorem dcall_sim {o : Option MB} {s : Option Abs} {c : List (List Int)} {x : Call} (cs : CS c) (h : DRel o s) (ha : Kp180Neutral.asked1 c = true) (hc : Kp180Neutral.callOf c = some x) (hm : Kp180Neutral.may s x = true) :
    DRel (dcall o c).1 (Kp180Neutral.step s c).1 ∧ (dcall o c).2 = (Kp180Neutral.step s c).2 := by
  unfold Kp180Neutral.step
  rw [hc]
  show DRel (dcall o c).1 (Kp180Neutral.does s x).1 ∧ (dcall o c).2 = Kp180Neutral.wrKp180_Ans (Kp180Neutral.does s x).2
  cases cs with
  | start r => exact start_sim h (asked_row ha) hc
  | next =>
    obtain rfl : Call.next = x := Option.some.inj hc
    obtain ⟨b, a, rfl, rfl, R, B⟩ := both_some h hm rfl
    exact ⟨⟨(next_sim R B).1, (next_sim R B).2.1⟩, (next_sim R B).2.2⟩
  | answer i w k z =>
    obtain rfl : Call.answer i.toNat w.toNat k.toNat z.toNat = x := Option.some.inj hc
    obtain ⟨b, a, rfl, rfl, R, B⟩ := both_some h hm rfl
    obtain ⟨h1, h2, h3⟩ := answer_sim R B i.toNat w.toNat k.toNat z.toNat
    exact ⟨⟨h1, h2⟩, (congrArg Kp180Neutral.wrKp180_Ans h3).symm⟩
  | tick t =>
    obtain rfl : Call.tick t.toNat = x := Option.some.inj hc
    obtain ⟨b, a, rfl, rfl, R, B⟩ := both_some h hm rfl
    obtain ⟨h1, h2, h3⟩ := tick_sim R B t.toNat
    exact ⟨⟨h1, h2⟩, (congrArg Kp180Neutral.wrKp180_Ans h3).symm⟩
  | halt =>
    obtain rfl : Call.halt_ = x := Option.some.inj hc
    obtain ⟨b, a, rfl, rfl, R, B⟩ := both_some h hm rfl
    obtain ⟨h1, h2, h3⟩ := halt_sim R B
    exact ⟨⟨h1, h2⟩, (congrArg Kp180Neutral.wrKp180_Ans h3).symm⟩
  | how =>
    obtain rfl : Call.how = x := Option.some.inj hc
    obtain ⟨b, a, rfl, rfl, R, B⟩ := both_some h hm rfl
    exact ⟨⟨R, B⟩, by show [0, (b.way : Int)] = [0, ((howNumber a.how : Nat) : Int)]; rw [R.how]⟩
  | step i =>
    obtain rfl : Call.step i.toNat = x := Option.some.inj hc
    obtain ⟨b, a, rfl, rfl, R, B⟩ := both_some h hm rfl
    exact ⟨⟨R, B⟩, (step_sim R i.toNat).2⟩
/-! ### the flat list -/
noncomputable def flat : List (List Int) → List Int
  | [x] => x
  | [_, r] => 0 :: (r.length : Int) :: r
  | _ => []
theorem flat_one (x : List Int) : flat [x] = x := rfl
theorem len1 {r : List Int} (h : r.length = 1) : ∃ a, r = [a] := List.length_eq_one_iff.mp h
theorem len4 {r : List Int} (h : r.length = 4) : ∃ a b c d, r = [a, b, c, d] := by
  cases r with
  | nil => cases h
  | cons a r =>
    cases r with
    | nil => cases h
    | cons b r =>
      cases r with
      | nil => cases h
      | cons c r =>
        obtain ⟨d, e⟩ := len1 (Nat.succ.inj (Nat.succ.inj (Nat.succ.inj h)))
        subst e
        exact ⟨a, b, c, d, rfl⟩
theorem shape_cases {p : Int} {n k : Nat} (h : PyKp180.shape p = some (n, k)) : (p = 0 ∧ n = 0 ∧ k = 1) ∨ (k = 0 ∧ ∀ x : List Int, x.length = n → CS [p :: x]) := by
  have z : ∀ {p : Int}, CS [[p]] → ∀ x : List Int, x.length = 0 → CS [p :: x] := fun {p} c x hx => by
    have : x = [] := List.eq_nil_of_length_eq_zero hx
    subst this
    exact c
  unfold PyKp180.shape at h
  by_cases h0 : p = 0
  · rw [if_pos h0] at h
    cases h
    exact .inl ⟨h0, rfl, rfl⟩
  · rw [if_neg h0] at h
    refine .inr ?_
    by_cases h1 : p = 1
    · rw [if_pos h1] at h; cases h; subst h1; exact ⟨rfl, z .next⟩
    · rw [if_neg h1] at h
      by_cases h2 : p = 2
      · rw [if_pos h2] at h; cases h; subst h2
        refine ⟨rfl, fun x hx => ?_⟩
        obtain ⟨a, b, c, d, rfl⟩ := len4 hx
        exact .answer a b c d
      · rw [if_neg h2] at h
        by_cases h3 : p = 3
        · rw [if_pos h3] at h; cases h; subst h3
          refine ⟨rfl, fun x hx => ?_⟩
          obtain ⟨a, rfl⟩ := len1 hx
          exact .tick a
        · rw [if_neg h3] at h
          by_cases h4 : p = 4
          · rw [if_pos h4] at h; cases h; subst h4; exact ⟨rfl, z .halt⟩
          · rw [if_neg h4] at h
            by_cases h5 : p = 5
            · rw [if_pos h5] at h; cases h; subst h5; exact ⟨rfl, z .how⟩
            · rw [if_neg h5] at h
              by_cases h6 : p = 6
              · rw [if_pos h6] at h; cases h; subst h6
                refine ⟨rfl, fun x hx => ?_⟩
                obtain ⟨a, rfl⟩ := len1 hx
                exact .step a
              · rw [if_neg h6] at h; cases h
theorem call_flat {l : List Int} {c : List (List Int)} {t : List Int} (h : PyFlat.call PyKp180.shape l = some (c, t)) : l = flat c ++ t ∧ CS c := by
  cases l with
  | nil => cases h
  | cons p r =>
    unfold PyFlat.call at h
    simp only [] at h
    cases hs : PyKp180.shape p with
    | none => rw [hs] at h; cases h
    | some nk =>
      obtain ⟨n, k⟩ := nk
      rw [hs] at h
      simp only [] at h
      by_cases hl : r.length < n
      · rw [if_pos hl] at h; cases h
      · rw [if_neg hl] at h
        rcases shape_cases hs with ⟨rfl, rfl, rfl⟩ | ⟨rfl, hcs⟩
        · unfold PyFlat.rows at h
          rw [List.drop_zero] at h
          cases r with
          | nil => cases h
          | cons m r' =>
            by_cases hm : 0 ≤ m ∧ m.toNat ≤ r'.length
            · have e : PyFlat.row (m :: r') = some (r'.take m.toNat, r'.drop m.toNat) := by
                exact if_pos hm
              rw [e] at h
              have h : some ([[(0 : Int)], r'.take m.toNat], r'.drop m.toNat) = some (c, t) := h
              have h := Option.some.inj h
              obtain ⟨rfl, rfl⟩ := Prod.mk.inj h
              refine ⟨?_, .start _⟩
              show 0 :: m :: r' = (0 :: ((r'.take m.toNat).length : Int) :: r'.take m.toNat) ++ r'.drop m.toNat
              rw [List.length_take, Nat.min_eq_left hm.2, Int.toNat_of_nonneg hm.1]
              show _ = 0 :: m :: (r'.take m.toNat ++ r'.drop m.toNat)
              rw [List.take_append_drop]
            · have e : PyFlat.row (m :: r') = none := by
                exact if_neg hm
              rw [e] at h; cases h
        · have h : some ([p :: r.take n], r.drop n) = some (c, t) := h
          obtain ⟨rfl, rfl⟩ := Prod.mk.inj (Option.some.inj h)
          refine ⟨?_, hcs _ (by rw [List.length_take]; omega)⟩
          rw [flat_one]
          show _ = p :: (r.take n ++ r.drop n)
          rw [List.take_append_drop]
theorem CS.whole {c : List (List Int)} (h : CS c) : PyKp180.whole c = c := by
  cases h <;> rfl
theorem calls_cons {f : Nat} {l : List Int} {cs : List (List (List Int))} (h : PyFlat.calls PyKp180.shape f l = some cs) (hl : l ≠ []) : ∃ f' c t cs', cs = c :: cs' ∧ PyFlat.call PyKp180.shape l = some (c, t) ∧ PyFlat.calls PyKp180.shape f' t = some cs' := by
  cases l with
  | nil => exact absurd rfl hl
  | cons p r =>
    cases f with
    | zero => cases h
    | succ f =>
      unfold PyFlat.calls at h
      cases hc : PyFlat.call PyKp180.shape (p :: r) with
      | none => rw [hc] at h; cases h
      | some ct =>
        obtain ⟨c, t⟩ := ct
        rw [hc] at h
        simp only [] at h
        cases hr : PyFlat.calls PyKp180.shape f t with
        | none => rw [hr] at h; cases h
        | some cs' =>
          rw [hr] at h
          exact ⟨f, c, t, cs', (Option.some.inj h).symm, rfl, hr⟩
theorem calls_whole : ∀ (f : Nat) (l : List Int) (cs : List (List (List Int))), PyFlat.calls PyKp180.shape f l = some cs → cs.map PyKp180.whole = cs
  | f, [], cs, h => by
    have : cs = [] := by cases f <;> exact (Option.some.inj h).symm
    subst this
    rfl
  | 0, p :: r, cs, h => by cases h
  | f + 1, p :: r, cs, h => by
    unfold PyFlat.calls at h
    cases hc : PyFlat.call PyKp180.shape (p :: r) with
    | none => rw [hc] at h; cases h
    | some ct =>
      obtain ⟨c, t⟩ := ct
      rw [hc] at h
      simp only [] at h
      cases hr : PyFlat.calls PyKp180.shape f t with
      | none => rw [hr] at h; cases h
      | some cs' =>
        rw [hr] at h
        obtain rfl := Option.some.inj h
        rw [List.map_cons, calls_whole f t cs' hr, (call_flat hc).2.whole]
/-! ### sizes -/
theorem dlen (o : Option MB) {c : List (List Int)} (h : CS c) : (dcall o c).2.length ≤ 4 := by
  have on : ∀ f : MB → MB × List Int, (∀ b, (f b).2.length ≤ 4) → (onB o f).2.length ≤ 4 := fun f h => by
    cases o with
    | none => exact Nat.zero_le _
    | some b => exact h b
  have two : ∀ f : MB → MB × List Int, (∀ b, ∃ z, (f b).2 = [0, z]) → (onB o f).2.length ≤ 4 := fun f h => on f fun b => by
    obtain ⟨z, e⟩ := h b
    rw [e]
    exact (by decide : 2 ≤ 4)
  cases h with
  | start r => exact (by decide : 2 ≤ 4)
  | next =>
    refine on MB.next fun b => ?_
    unfold MB.next
    split
    · exact (by decide : 2 ≤ 4)
    · split
      · exact (by decide : 2 ≤ 4)
      · exact (by decide : 4 ≤ 4)
  | answer i w k z => exact two _ fun b => ⟨_, rfl⟩
  | tick t => exact two _ fun b => ⟨_, rfl⟩
  | halt => exact two _ fun b => ⟨_, rfl⟩
  | how => exact two _ fun b => ⟨_, rfl⟩
  | step i =>
    refine on (fun b => (b, b.step i.toNat)) fun b => ?_
    show (b.step i.toNat).length ≤ 4
    unfold MB.step
    split
    · exact (by decide : 2 ≤ 4)
    · exact (by decide : 4 ≤ 4)
theorem put_len (b : MB) (i : Nat) (m : MS) : (b.put i m).steps.length = b.steps.length := List.length_set ..
theorem next_len (b : MB) : b.next.1.steps.length = b.steps.length := by
  unfold MB.next
  split
  · rfl
  · split
    · rfl
    · exact put_len ..
theorem answer_len (b : MB) (i w k z : Nat) : (b.answer i w k z).1.steps.length = b.steps.length := by
  unfold MB.answer
  split
  · rfl
  · split
    · rfl
    · split
      · rfl
      · split
        · rfl
        · exact put_len ..
theorem tick_len (b : MB) (t : Nat) : (b.tick t).1.steps.length = b.steps.length := by
  unfold MB.tick
  split <;> rfl
theorem halt_len (b : MB) : b.halt.1.steps.length = b.steps.length := by
  unfold MB.halt
  split
  · rfl
  · split <;> rfl
noncomputable def Sm (o : Option MB) (n : Nat) : Prop := ∀ b, o = some b → Len b n ∧ b.steps.length ≤ 32
theorem Sm.call {o : Option MB} {n : Nat} (h : Sm o n) {c : List (List Int)} (cs : CS c) : Sm (dcall o c).1 (n + 1) := by
  have on : ∀ f : MB → MB × List Int, (∀ b, Len b n → b.steps.length ≤ 32 → Len (f b).1 (n + 1) ∧ (f b).1.steps.length ≤ 32) → Sm (onB o f).1 (n + 1) := fun f hf b e => by
    cases o with
    | none => cases e
    | some b0 =>
      have e := Option.some.inj e
      subst e
      exact hf b0 (h b0 rfl).1 (h b0 rfl).2
  have same : Sm o (n + 1) := fun b e => ⟨(h b e).1.mono (by omega), (h b e).2⟩
  cases cs with
  | start r =>
    show Sm (numAns (startM o r)).1 (n + 1)
    unfold numAns startM
    split
    · rename_i hf
      intro b e
      have e := Option.some.inj e
      subst e
      refine ⟨fun m hm => ?_, (fit_ok hf).2⟩
      obtain ⟨x, y, z, w, rfl⟩ := parse_new hm
      exact ⟨Nat.zero_le _, Nat.zero_le _⟩
    · exact same
  | next => exact on MB.next fun b hb hl => ⟨hb.next, by rw [next_len]; exact hl⟩
  | answer i w k z => exact on (fun b => ((b.answer i.toNat w.toNat k.toNat z.toNat).1, [0, (b.answer i.toNat w.toNat k.toNat z.toNat).2])) fun b hb hl => ⟨hb.answer.mono (by omega), by rw [answer_len]; exact hl⟩
  | tick t => exact on (fun b => ((b.tick t.toNat).1, [0, (b.tick t.toNat).2])) fun b hb hl => ⟨hb.tick.mono (by omega), by rw [tick_len]; exact hl⟩
  | halt => exact on (fun b => (b.halt.1, [0, b.halt.2])) fun b hb hl => ⟨hb.halt.mono (by omega), by rw [halt_len]; exact hl⟩
  | how => exact on (fun b => (b, [0, (b.way : Int)])) fun b hb hl => ⟨hb.mono (by omega), hl⟩
  | step i => exact on (fun b => (b, b.step i.toNat)) fun b hb hl => ⟨hb.mono (by omega), hl⟩
/-! ### the loop over the calls -/
structure LInv (l : List Int) (at_ : Nat) (o : Option MB) (out : List Int) (n : Nat) : Prop where
  ex : ∃ (f : Nat) (cs : List (List (List Int))) (s : Option Abs), PyFlat.calls PyKp180.shape f (l.drop at_) = some cs ∧ Kp180Neutral.askedFrom s cs = true ∧ DRel o s ∧
    out ++ PyFlat.told (PyFlat.played Kp180Neutral.step s cs) = PyKp180.answers l ∧ n + cs.length ≤ 3000
  sm : Sm o n
  ol : out.length ≤ 5 * n
  al : at_ ≤ l.length
theorem LInv.start {l : List Int} (h : PyKp180.answers_asked l = true) : LInv l 0 none [] 0 := by
  unfold PyKp180.answers_asked at h
  cases hc : PyFlat.calls PyKp180.shape l.length l with
  | none =>
    have : PyKp180.calls l = none := by unfold PyKp180.calls; rw [hc]
    rw [this] at h; cases h
  | some cs =>
    have e : PyKp180.calls l = some cs := by
      unfold PyKp180.calls
      rw [hc]
      show some (cs.map PyKp180.whole) = some cs
      rw [calls_whole _ _ _ hc]
    rw [e] at h
    simp only [Bool.and_eq_true] at h
    refine ⟨⟨l.length, cs, none, by rw [List.drop_zero]; exact hc, ?_, trivial, ?_, ?_⟩, fun b e => (by cases e), Nat.zero_le _, Nat.zero_le _⟩
    · have := h.2
      unfold Kp180Neutral.asked at this
      simp only [Bool.and_eq_true] at this
      exact this.2.2
    · rw [List.nil_append]
      unfold PyKp180.answers
      rw [e]
      rfl
    · have := h.1
      unfold PyFlat.atMost at this
      have := of_decide_eq_true this
      omega
theorem LInv.done {l : List Int} {at_ n : Nat} {o : Option MB} {out : List Int} (h : LInv l at_ o out n) (hl : l.length ≤ at_) : out = PyKp180.answers l := by
  obtain ⟨f, cs, s, h1, h2, h3, h4, h5⟩ := h.ex
  rw [List.drop_of_length_le hl] at h1
  have : cs = [] := by
    cases f <;> exact (Option.some.inj h1).symm
  subst this
  simpa [PyFlat.told, PyFlat.played] using h4
/-- what a call that is asked is like -/
structure COk (o : Option MB) (n : Nat) (c : List (List Int)) : Prop where
  shape : CS c
  asked : Kp180Neutral.asked1 c = true
  first : o = none → ∃ r, c = [[0], r]
  biz : ∀ b, o = some b → BOk b ∧ Len b n ∧ b.steps.length ≤ 32
  few : n < 3000
theorem LInv.turn {l : List Int} {at_ n : Nat} {o : Option MB} {out : List Int} (h : LInv l at_ o out n) (hl : at_ < l.length) :
    ∃ c t, l.drop at_ = flat c ++ t ∧ COk o n c ∧ LInv l (at_ + (flat c).length) (dcall o c).1 (out ++ ((dcall o c).2.length : Int) :: (dcall o c).2) (n + 1) := by
  obtain ⟨f, cs, s, h1, h2, h3, h4, h5⟩ := h.ex
  have hne : l.drop at_ ≠ [] := fun z => by
    have := congrArg List.length z
    rw [List.length_drop] at this
    simp at this
    omega
  obtain ⟨f', c, t, cs', rfl, e1, e2⟩ := calls_cons h1 hne
  obtain ⟨ef, cs⟩ := call_flat e1
  unfold Kp180Neutral.askedFrom at h2
  simp only [Bool.and_eq_true] at h2
  obtain ⟨⟨a1, a2⟩, a3⟩ := h2
  cases hx : Kp180Neutral.callOf c with
  | none => rw [hx] at a2; cases a2
  | some x =>
    rw [hx] at a2
    have a2 : Kp180Neutral.may s x = true := a2
    obtain ⟨D, E⟩ := dcall_sim cs h3 a1 hx a2
    have ed : l.drop (at_ + (flat c).length) = t := by
      rw [← List.drop_drop, ef, List.drop_left]
    refine ⟨c, t, ef, ⟨cs, a1, fun ho => ?_, fun b hb => ?_, ?_⟩, ⟨⟨f', cs', (Kp180Neutral.step s c).1, by rw [ed]; exact e2, a3, D, ?_, ?_⟩, h.sm.call cs, ?_, ?_⟩⟩
    · subst ho
      cases s with
      | some a => exact absurd h3 id
      | none =>
        unfold Kp180Neutral.may at a2
        simp only [Bool.and_eq_true] at a2
        have st : Kp180Neutral.starts x = true := a2.1
        cases cs with
        | start r => exact ⟨r, rfl⟩
        | next => cases hx; cases st
        | answer i w k z => cases hx; cases st
        | tick t => cases hx; cases st
        | halt => cases hx; cases st
        | how => cases hx; cases st
        | step i => cases hx; cases st
    · subst hb
      cases s with
      | none => exact absurd h3 id
      | some a => exact ⟨h3.2, h.sm b rfl⟩
    · have : (c :: cs').length = cs'.length + 1 := rfl
      omega
    · rw [← h4, E, List.append_assoc]
      rfl
    · have : (c :: cs').length = cs'.length + 1 := rfl
      omega
    · have := dlen o cs
      have := h.ol
      rw [List.length_append, List.length_cons]
      omega
    · have := congrArg List.length ef
      rw [List.length_drop, List.length_append] at this
      omega
end LD
namespace LD
open PySem L2
noncomputable def top (i : Nat) : Stmt := PySem.Challenge.pw_longdeed_s01_answers.main.body.getD i (.Pass ⟨0, 0, 0, 0⟩)
noncomputable abbrev s_T_init : Stmt := inClass (top 35) 0
noncomputable abbrev s_T_how_many : Stmt := inClass (top 35) 1
noncomputable abbrev s_T_tell : Stmt := inClass (top 35) 2
noncomputable abbrev s_T_take_reply : Stmt := inClass (top 35) 3
noncomputable abbrev s_T_is_told : Stmt := inClass (top 35) 4
noncomputable abbrev s_T_is_last : Stmt := inClass (top 35) 5
noncomputable abbrev s_T_is_answered : Stmt := inClass (top 35) 6
noncomputable abbrev s_T_all_answered : Stmt := inClass (top 35) 7
noncomputable abbrev s_T_last_over : Stmt := inClass (top 35) 8
noncomputable abbrev s_T_may_tell : Stmt := inClass (top 35) 9
noncomputable abbrev s_S_init : Stmt := inClass (top 36) 0
noncomputable abbrev s_S_was_done : Stmt := inClass (top 36) 1
noncomputable abbrev s_S_was_undone : Stmt := inClass (top 36) 2
noncomputable abbrev s_S_is_clean : Stmt := inClass (top 36) 3
noncomputable abbrev s_S_is_given_up : Stmt := inClass (top 36) 4
noncomputable abbrev s_S_is_point_told : Stmt := inClass (top 36) 5
noncomputable abbrev s_S_standing : Stmt := inClass (top 36) 6
noncomputable abbrev s_S_tellings : Stmt := inClass (top 36) 7
noncomputable abbrev s_S_is_nothing_new : Stmt := inClass (top 36) 8
noncomputable abbrev s_S_is_nothing_new_of_doing : Stmt := inClass (top 36) 9
noncomputable abbrev s_B_init : Stmt := inClass (top 37) 0
noncomputable abbrev s_B_tell_next : Stmt := inClass (top 37) 1
noncomputable abbrev s_B_place_to_do : Stmt := inClass (top 37) 2
noncomputable abbrev s_B_done_bits : Stmt := inClass (top 37) 3
noncomputable abbrev s_B_place_to_undo : Stmt := inClass (top 37) 4
noncomputable abbrev s_B_take_answer : Stmt := inClass (top 37) 5
noncomputable abbrev s_B_tick : Stmt := inClass (top 37) 6
noncomputable abbrev s_B_turn_back : Stmt := inClass (top 37) 7
noncomputable abbrev s_B_tell_step : Stmt := inClass (top 37) 8
noncomputable abbrev s_B_settle : Stmt := inClass (top 37) 9
noncomputable abbrev s_D_init : Stmt := inClass (top 38) 0
noncomputable abbrev s_D_take_call : Stmt := inClass (top 38) 1
noncomputable abbrev s_D_number_for : Stmt := inClass (top 38) 2
noncomputable abbrev s_D_start : Stmt := inClass (top 38) 3
noncomputable abbrev s_F_read_steps : Stmt := top 39
noncomputable abbrev s_F_are_steps_fit : Stmt := top 40
noncomputable abbrev s_F_is_step_fit : Stmt := top 41
noncomputable abbrev s_F_are_kinds_fit : Stmt := top 42
noncomputable abbrev s_F_all_needs : Stmt := top 43
noncomputable abbrev s_F_call_size : Stmt := top 44
noncomputable abbrev s_F_answers : Stmt := top 45
set_option genInjectivity false
set_option genSizeOfSpec false
/-- where the classes, the defs and the constants stand -/
structure Ad where
  CT : Addr
  CS : Addr
  CB : Addr
  CD : Addr
  T_init : Addr
  T_how_many : Addr
  T_tell : Addr
  T_take_reply : Addr
  T_is_told : Addr
  T_is_last : Addr
  T_is_answered : Addr
  T_all_answered : Addr
  T_last_over : Addr
  T_may_tell : Addr
  S_init : Addr
  S_was_done : Addr
  S_was_undone : Addr
  S_is_clean : Addr
  S_is_given_up : Addr
  S_is_point_told : Addr
  S_standing : Addr
  S_tellings : Addr
  S_is_nothing_new : Addr
  S_is_nothing_new_of_doing : Addr
  B_init : Addr
  B_tell_next : Addr
  B_place_to_do : Addr
  B_done_bits : Addr
  B_place_to_undo : Addr
  B_take_answer : Addr
  B_tick : Addr
  B_turn_back : Addr
  B_tell_step : Addr
  B_settle : Addr
  D_init : Addr
  D_take_call : Addr
  D_number_for : Addr
  D_start : Addr
  F_read_steps : Addr
  F_are_steps_fit : Addr
  F_is_step_fit : Addr
  F_are_kinds_fit : Addr
  F_all_needs : Addr
  F_call_size : Addr
  F_answers : Addr
  k_WRONG : Tok
  k_TOO_LATE : Tok
  k_NOTHING : Tok
  k_NOT_TOLD : Tok
  k_START : Tok
  k_NEXT : Tok
  k_ANSWER : Tok
  k_TICK : Tok
  k_STOP : Tok
  k_STEP : Tok
  k_NUMBER_FORM : Tok
  k_THREE_FORM : Tok
  k_ON : Tok
  k_BACK : Tok
  k_DONE : Tok
  k_UNDONE : Tok
  k_AHEAD : Tok
  k_POINT : Tok
  k_BEHIND : Tok
  k_TO_DO : Tok
  k_TO_UNDO : Tok
  k_UNANSWERED : Tok
  k_ILL : Tok
  k_WELL : Tok
  k_NEITHER : Tok
  k_WAS_DONE : Tok
  k_WAS_UNDONE : Tok
  k_NUMBERS_A_STEP : Tok
  k_MOST_STEPS : Tok
  k_MOST_WAIT : Tok
  k_MOST_TRIES : Tok
  k_MOST_TICKS : Tok
  k_MOST_KEPT : Tok
  sizes : Addr
structure Txt (K : PySem.W.Frag) (mg : Str → Option Value) (A : Ad) : Prop where
  clT : Cls K A.CT
  clS : Cls K A.CS
  clB : Cls K A.CB
  clD : Cls K A.CD
  gT : mg "Tellings" = some (.ref A.CT)
  gS : mg "Step" = some (.ref A.CS)
  gB : mg "Business" = some (.ref A.CB)
  gD : mg "Desk" = some (.ref A.CD)
  mkT : Mk K A.CT A.T_init
  mkS : Mk K A.CS A.S_init
  mkB : Mk K A.CB A.B_init
  mkD : Mk K A.CD A.D_init
  nT_wait : NoAttr K A.CT "wait"
  nT_replies : NoAttr K A.CT "replies"
  nT_last_time : NoAttr K A.CT "last_time"
  nT_well : NoAttr K A.CT "well"
  nS_needs : NoAttr K A.CS "needs"
  nS_wait : NoAttr K A.CS "wait"
  nS_tries : NoAttr K A.CS "tries"
  nS_kind : NoAttr K A.CS "kind"
  nS_doing : NoAttr K A.CS "doing"
  nS_undoing : NoAttr K A.CS "undoing"
  nB_steps : NoAttr K A.CB "steps"
  nB_now : NoAttr K A.CB "now"
  nB_way : NoAttr K A.CB "way"
  nD_business : NoAttr K A.CD "business"
  f_T_init : ∃ fd, Fun K "__init__" "Tellings.__init__" s_T_init A.T_init fd ∧ Binds K fd ["self", "wait"] []
  f_T_how_many : ∃ fd, Fun K "how_many" "Tellings.how_many" s_T_how_many A.T_how_many fd ∧ Binds K fd ["self"] []
  m_T_how_many : Meth K A.CT "how_many" A.T_how_many
  f_T_tell : ∃ fd, Fun K "tell" "Tellings.tell" s_T_tell A.T_tell fd ∧ Binds K fd ["self", "now"] []
  m_T_tell : Meth K A.CT "tell" A.T_tell
  f_T_take_reply : ∃ fd, Fun K "take_reply" "Tellings.take_reply" s_T_take_reply A.T_take_reply fd ∧ Binds K fd ["self", "k", "reply"] []
  m_T_take_reply : Meth K A.CT "take_reply" A.T_take_reply
  f_T_is_told : ∃ fd, Fun K "is_told" "Tellings.is_told" s_T_is_told A.T_is_told fd ∧ Binds K fd ["self", "k"] []
  m_T_is_told : Meth K A.CT "is_told" A.T_is_told
  f_T_is_last : ∃ fd, Fun K "is_last" "Tellings.is_last" s_T_is_last A.T_is_last fd ∧ Binds K fd ["self", "k"] []
  m_T_is_last : Meth K A.CT "is_last" A.T_is_last
  f_T_is_answered : ∃ fd, Fun K "is_answered" "Tellings.is_answered" s_T_is_answered A.T_is_answered fd ∧ Binds K fd ["self", "k"] []
  m_T_is_answered : Meth K A.CT "is_answered" A.T_is_answered
  f_T_all_answered : ∃ fd, Fun K "all_answered" "Tellings.all_answered" s_T_all_answered A.T_all_answered fd ∧ Binds K fd ["self"] []
  m_T_all_answered : Meth K A.CT "all_answered" A.T_all_answered
  f_T_last_over : ∃ fd, Fun K "last_over" "Tellings.last_over" s_T_last_over A.T_last_over fd ∧ Binds K fd ["self", "now"] []
  m_T_last_over : Meth K A.CT "last_over" A.T_last_over
  f_T_may_tell : ∃ fd, Fun K "may_tell" "Tellings.may_tell" s_T_may_tell A.T_may_tell fd ∧ Binds K fd ["self", "now"] []
  m_T_may_tell : Meth K A.CT "may_tell" A.T_may_tell
  f_S_init : ∃ fd, Fun K "__init__" "Step.__init__" s_S_init A.S_init fd ∧ Binds K fd ["self", "needs", "wait", "tries", "kind"] []
  f_S_was_done : ∃ fd, Fun K "was_done" "Step.was_done" s_S_was_done A.S_was_done fd ∧ Binds K fd ["self"] []
  m_S_was_done : Meth K A.CS "was_done" A.S_was_done
  f_S_was_undone : ∃ fd, Fun K "was_undone" "Step.was_undone" s_S_was_undone A.S_was_undone fd ∧ Binds K fd ["self"] []
  m_S_was_undone : Meth K A.CS "was_undone" A.S_was_undone
  f_S_is_clean : ∃ fd, Fun K "is_clean" "Step.is_clean" s_S_is_clean A.S_is_clean fd ∧ Binds K fd ["self"] []
  m_S_is_clean : Meth K A.CS "is_clean" A.S_is_clean
  f_S_is_given_up : ∃ fd, Fun K "is_given_up" "Step.is_given_up" s_S_is_given_up A.S_is_given_up fd ∧ Binds K fd ["self", "now"] []
  m_S_is_given_up : Meth K A.CS "is_given_up" A.S_is_given_up
  f_S_is_point_told : ∃ fd, Fun K "is_point_told" "Step.is_point_told" s_S_is_point_told A.S_is_point_told fd ∧ Binds K fd ["self"] []
  m_S_is_point_told : Meth K A.CS "is_point_told" A.S_is_point_told
  f_S_standing : ∃ fd, Fun K "standing" "Step.standing" s_S_standing A.S_standing fd ∧ Binds K fd ["self"] []
  m_S_standing : Meth K A.CS "standing" A.S_standing
  f_S_tellings : ∃ fd, Fun K "tellings" "Step.tellings" s_S_tellings A.S_tellings fd ∧ Binds K fd ["self", "what"] []
  m_S_tellings : Meth K A.CS "tellings" A.S_tellings
  f_S_is_nothing_new : ∃ fd, Fun K "is_nothing_new" "Step.is_nothing_new" s_S_is_nothing_new A.S_is_nothing_new fd ∧ Binds K fd ["self", "what", "k", "ok"] []
  m_S_is_nothing_new : Meth K A.CS "is_nothing_new" A.S_is_nothing_new
  f_S_is_nothing_new_of_doing : ∃ fd, Fun K "is_nothing_new_of_doing" "Step.is_nothing_new_of_doing" s_S_is_nothing_new_of_doing A.S_is_nothing_new_of_doing fd ∧ Binds K fd ["self", "k", "ok"] []
  m_S_is_nothing_new_of_doing : Meth K A.CS "is_nothing_new_of_doing" A.S_is_nothing_new_of_doing
  f_B_init : ∃ fd, Fun K "__init__" "Business.__init__" s_B_init A.B_init fd ∧ Binds K fd ["self", "steps"] []
  f_B_tell_next : ∃ fd, Fun K "tell_next" "Business.tell_next" s_B_tell_next A.B_tell_next fd ∧ Binds K fd ["self"] []
  m_B_tell_next : Meth K A.CB "tell_next" A.B_tell_next
  f_B_place_to_do : ∃ fd, Fun K "place_to_do" "Business.place_to_do" s_B_place_to_do A.B_place_to_do fd ∧ Binds K fd ["self"] []
  m_B_place_to_do : Meth K A.CB "place_to_do" A.B_place_to_do
  f_B_done_bits : ∃ fd, Fun K "done_bits" "Business.done_bits" s_B_done_bits A.B_done_bits fd ∧ Binds K fd ["self"] []
  m_B_done_bits : Meth K A.CB "done_bits" A.B_done_bits
  f_B_place_to_undo : ∃ fd, Fun K "place_to_undo" "Business.place_to_undo" s_B_place_to_undo A.B_place_to_undo fd ∧ Binds K fd ["self"] []
  m_B_place_to_undo : Meth K A.CB "place_to_undo" A.B_place_to_undo
  f_B_take_answer : ∃ fd, Fun K "take_answer" "Business.take_answer" s_B_take_answer A.B_take_answer fd ∧ Binds K fd ["self", "i", "what", "k", "ok"] []
  m_B_take_answer : Meth K A.CB "take_answer" A.B_take_answer
  f_B_tick : ∃ fd, Fun K "tick" "Business.tick" s_B_tick A.B_tick fd ∧ Binds K fd ["self", "ticks"] []
  m_B_tick : Meth K A.CB "tick" A.B_tick
  f_B_turn_back : ∃ fd, Fun K "turn_back" "Business.turn_back" s_B_turn_back A.B_turn_back fd ∧ Binds K fd ["self"] []
  m_B_turn_back : Meth K A.CB "turn_back" A.B_turn_back
  f_B_tell_step : ∃ fd, Fun K "tell_step" "Business.tell_step" s_B_tell_step A.B_tell_step fd ∧ Binds K fd ["self", "i"] []
  m_B_tell_step : Meth K A.CB "tell_step" A.B_tell_step
  f_B_settle : ∃ fd, Fun K "settle" "Business.settle" s_B_settle A.B_settle fd ∧ Binds K fd ["self"] []
  m_B_settle : Meth K A.CB "settle" A.B_settle
  f_D_init : ∃ fd, Fun K "__init__" "Desk.__init__" s_D_init A.D_init fd ∧ Binds K fd ["self"] []
  f_D_take_call : ∃ fd, Fun K "take_call" "Desk.take_call" s_D_take_call A.D_take_call fd ∧ Binds K fd ["self", "call"] []
  m_D_take_call : Meth K A.CD "take_call" A.D_take_call
  f_D_number_for : ∃ fd, Fun K "number_for" "Desk.number_for" s_D_number_for A.D_number_for fd ∧ Binds K fd ["self", "call"] []
  m_D_number_for : Meth K A.CD "number_for" A.D_number_for
  f_D_start : ∃ fd, Fun K "start" "Desk.start" s_D_start A.D_start fd ∧ Binds K fd ["self", "numbers"] []
  m_D_start : Meth K A.CD "start" A.D_start
  f_F_read_steps : ∃ fd, Fun K "read_steps" "read_steps" s_F_read_steps A.F_read_steps fd ∧ Binds K fd ["numbers"] []
  g_F_read_steps : mg "read_steps" = some (.ref A.F_read_steps)
  k_F_read_steps : PySem.W.keepIn K (.ref A.F_read_steps) = true
  f_F_are_steps_fit : ∃ fd, Fun K "are_steps_fit" "are_steps_fit" s_F_are_steps_fit A.F_are_steps_fit fd ∧ Binds K fd ["steps"] []
  g_F_are_steps_fit : mg "are_steps_fit" = some (.ref A.F_are_steps_fit)
  k_F_are_steps_fit : PySem.W.keepIn K (.ref A.F_are_steps_fit) = true
  f_F_is_step_fit : ∃ fd, Fun K "is_step_fit" "is_step_fit" s_F_is_step_fit A.F_is_step_fit fd ∧ Binds K fd ["place", "step"] []
  g_F_is_step_fit : mg "is_step_fit" = some (.ref A.F_is_step_fit)
  k_F_is_step_fit : PySem.W.keepIn K (.ref A.F_is_step_fit) = true
  f_F_are_kinds_fit : ∃ fd, Fun K "are_kinds_fit" "are_kinds_fit" s_F_are_kinds_fit A.F_are_kinds_fit fd ∧ Binds K fd ["steps", "point"] []
  g_F_are_kinds_fit : mg "are_kinds_fit" = some (.ref A.F_are_kinds_fit)
  k_F_are_kinds_fit : PySem.W.keepIn K (.ref A.F_are_kinds_fit) = true
  f_F_all_needs : ∃ fd, Fun K "all_needs" "all_needs" s_F_all_needs A.F_all_needs fd ∧ Binds K fd ["steps"] []
  g_F_all_needs : mg "all_needs" = some (.ref A.F_all_needs)
  k_F_all_needs : PySem.W.keepIn K (.ref A.F_all_needs) = true
  f_F_call_size : ∃ fd, Fun K "call_size" "call_size" s_F_call_size A.F_call_size fd ∧ Binds K fd ["calls", "at"] []
  g_F_call_size : mg "call_size" = some (.ref A.F_call_size)
  k_F_call_size : PySem.W.keepIn K (.ref A.F_call_size) = true
  f_F_answers : ∃ fd, Fun K "answers" "answers" s_F_answers A.F_answers fd ∧ Binds K fd ["calls"] []
  g_F_answers : mg "answers" = some (.ref A.F_answers)
  k_F_answers : PySem.W.keepIn K (.ref A.F_answers) = true
  g_WRONG : mg "WRONG" = some (.int (-22) A.k_WRONG)
  g_TOO_LATE : mg "TOO_LATE" = some (.int (-16) A.k_TOO_LATE)
  g_NOTHING : mg "NOTHING" = some (.int (-11) A.k_NOTHING)
  g_NOT_TOLD : mg "NOT_TOLD" = some (.int (-2) A.k_NOT_TOLD)
  g_START : mg "START" = some (.int (0) A.k_START)
  g_NEXT : mg "NEXT" = some (.int (1) A.k_NEXT)
  g_ANSWER : mg "ANSWER" = some (.int (2) A.k_ANSWER)
  g_TICK : mg "TICK" = some (.int (3) A.k_TICK)
  g_STOP : mg "STOP" = some (.int (4) A.k_STOP)
  g_STEP : mg "STEP" = some (.int (6) A.k_STEP)
  g_NUMBER_FORM : mg "NUMBER_FORM" = some (.int (0) A.k_NUMBER_FORM)
  g_THREE_FORM : mg "THREE_FORM" = some (.int (1) A.k_THREE_FORM)
  g_ON : mg "ON" = some (.int (0) A.k_ON)
  g_BACK : mg "BACK" = some (.int (1) A.k_BACK)
  g_DONE : mg "DONE" = some (.int (2) A.k_DONE)
  g_UNDONE : mg "UNDONE" = some (.int (3) A.k_UNDONE)
  g_AHEAD : mg "AHEAD" = some (.int (0) A.k_AHEAD)
  g_POINT : mg "POINT" = some (.int (1) A.k_POINT)
  g_BEHIND : mg "BEHIND" = some (.int (2) A.k_BEHIND)
  g_TO_DO : mg "TO_DO" = some (.int (0) A.k_TO_DO)
  g_TO_UNDO : mg "TO_UNDO" = some (.int (1) A.k_TO_UNDO)
  g_UNANSWERED : mg "UNANSWERED" = some (.int (0) A.k_UNANSWERED)
  g_ILL : mg "ILL" = some (.int (1) A.k_ILL)
  g_WELL : mg "WELL" = some (.int (2) A.k_WELL)
  g_NEITHER : mg "NEITHER" = some (.int (0) A.k_NEITHER)
  g_WAS_DONE : mg "WAS_DONE" = some (.int (1) A.k_WAS_DONE)
  g_WAS_UNDONE : mg "WAS_UNDONE" = some (.int (2) A.k_WAS_UNDONE)
  g_NUMBERS_A_STEP : mg "NUMBERS_A_STEP" = some (.int (4) A.k_NUMBERS_A_STEP)
  g_MOST_STEPS : mg "MOST_STEPS" = some (.int (32) A.k_MOST_STEPS)
  g_MOST_WAIT : mg "MOST_WAIT" = some (.int (65535) A.k_MOST_WAIT)
  g_MOST_TRIES : mg "MOST_TRIES" = some (.int (8) A.k_MOST_TRIES)
  g_MOST_TICKS : mg "MOST_TICKS" = some (.int (65535) A.k_MOST_TICKS)
  g_MOST_KEPT : mg "MOST_KEPT" = some (.int (8) A.k_MOST_KEPT)
  g_sizes : mg "CALL_SIZES" = some (.ref A.sizes)
  t_sizes : ∀ H : Hp, SqT K H A.sizes [.non, .int 1, .int 5, .int 2, .int 1, .int 1, .int 2]
  z_len : mg "len" = none
  z_any : mg "any" = none
  z_all : mg "all" = none
  z_range : mg "range" = none
  z_enumerate : mg "enumerate" = none
set_option genInjectivity true
set_option genSizeOfSpec true
theorem sc_T_init : FnScope ["self", "wait"] ["self", "wait"] (defScope s_T_init) := ⟨rfl, rfl, rfl, by decide +kernel, rfl, by decide +kernel, by decide +kernel⟩
theorem sc_T_how_many : FnScope ["self"] ["self"] (defScope s_T_how_many) := ⟨rfl, rfl, rfl, by decide +kernel, rfl, by decide +kernel, by decide +kernel⟩
theorem sc_T_tell : FnScope ["self", "now"] ["self", "now"] (defScope s_T_tell) := ⟨rfl, rfl, rfl, by decide +kernel, rfl, by decide +kernel, by decide +kernel⟩
theorem sc_T_take_reply : FnScope ["self", "k", "reply"] ["self", "k", "reply"] (defScope s_T_take_reply) := ⟨rfl, rfl, rfl, by decide +kernel, rfl, by decide +kernel, by decide +kernel⟩
theorem sc_T_is_told : FnScope ["self", "k"] ["self", "k"] (defScope s_T_is_told) := ⟨rfl, rfl, rfl, by decide +kernel, rfl, by decide +kernel, by decide +kernel⟩
theorem sc_T_is_last : FnScope ["self", "k"] ["self", "k"] (defScope s_T_is_last) := ⟨rfl, rfl, rfl, by decide +kernel, rfl, by decide +kernel, by decide +kernel⟩
theorem sc_T_is_answered : FnScope ["self", "k"] ["self", "k"] (defScope s_T_is_answered) := ⟨rfl, rfl, rfl, by decide +kernel, rfl, by decide +kernel, by decide +kernel⟩
theorem sc_T_all_answered : FnScope ["self"] ["self"] (defScope s_T_all_answered) := ⟨rfl, rfl, rfl, by decide +kernel, rfl, by decide +kernel, by decide +kernel⟩
theorem sc_T_last_over : FnScope ["self", "now", "reply"] ["self", "now"] (defScope s_T_last_over) := ⟨rfl, rfl, rfl, by decide +kernel, rfl, by decide +kernel, by decide +kernel⟩
theorem sc_T_may_tell : FnScope ["self", "now"] ["self", "now"] (defScope s_T_may_tell) := ⟨rfl, rfl, rfl, by decide +kernel, rfl, by decide +kernel, by decide +kernel⟩
theorem sc_S_init : FnScope ["self", "needs", "wait", "tries", "kind"] ["self", "needs", "wait", "tries", "kind"] (defScope s_S_init) := ⟨rfl, rfl, rfl, by decide +kernel, rfl, by decide +kernel, by decide +kernel⟩
theorem sc_S_was_done : FnScope ["self"] ["self"] (defScope s_S_was_done) := ⟨rfl, rfl, rfl, by decide +kernel, rfl, by decide +kernel, by decide +kernel⟩
theorem sc_S_was_undone : FnScope ["self"] ["self"] (defScope s_S_was_undone) := ⟨rfl, rfl, rfl, by decide +kernel, rfl, by decide +kernel, by decide +kernel⟩
theorem sc_S_is_clean : FnScope ["self"] ["self"] (defScope s_S_is_clean) := ⟨rfl, rfl, rfl, by decide +kernel, rfl, by decide +kernel, by decide +kernel⟩
theorem sc_S_is_given_up : FnScope ["self", "now"] ["self", "now"] (defScope s_S_is_given_up) := ⟨rfl, rfl, rfl, by decide +kernel, rfl, by decide +kernel, by decide +kernel⟩
theorem sc_S_is_point_told : FnScope ["self"] ["self"] (defScope s_S_is_point_told) := ⟨rfl, rfl, rfl, by decide +kernel, rfl, by decide +kernel, by decide +kernel⟩
theorem sc_S_standing : FnScope ["self"] ["self"] (defScope s_S_standing) := ⟨rfl, rfl, rfl, by decide +kernel, rfl, by decide +kernel, by decide +kernel⟩
theorem sc_S_tellings : FnScope ["self", "what"] ["self", "what"] (defScope s_S_tellings) := ⟨rfl, rfl, rfl, by decide +kernel, rfl, by decide +kernel, by decide +kernel⟩
theorem sc_S_is_nothing_new : FnScope ["self", "what", "k", "ok"] ["self", "what", "k", "ok"] (defScope s_S_is_nothing_new) := ⟨rfl, rfl, rfl, by decide +kernel, rfl, by decide +kernel, by decide +kernel⟩
theorem sc_S_is_nothing_new_of_doing : FnScope ["self", "k", "ok"] ["self", "k", "ok"] (defScope s_S_is_nothing_new_of_doing) := ⟨rfl, rfl, rfl, by decide +kernel, rfl, by decide +kernel, by decide +kernel⟩
theorem sc_B_init : FnScope ["self", "steps"] ["self", "steps"] (defScope s_B_init) := ⟨rfl, rfl, rfl, by decide +kernel, rfl, by decide +kernel, by decide +kernel⟩
theorem sc_B_tell_next : FnScope ["self", "what", "place", "told"] ["self"] (defScope s_B_tell_next) := ⟨rfl, rfl, rfl, by decide +kernel, rfl, by decide +kernel, by decide +kernel⟩
theorem sc_B_place_to_do : FnScope ["self", "done", "place", "step"] ["self"] (defScope s_B_place_to_do) := ⟨rfl, rfl, rfl, by decide +kernel, rfl, by decide +kernel, by decide +kernel⟩
theorem sc_B_done_bits : FnScope ["self", "bits", "place", "step"] ["self"] (defScope s_B_done_bits) := ⟨rfl, rfl, rfl, by decide +kernel, rfl, by decide +kernel, by decide +kernel⟩
theorem sc_B_place_to_undo : FnScope ["self", "held", "place", "step"] ["self"] (defScope s_B_place_to_undo) := ⟨rfl, rfl, rfl, by decide +kernel, rfl, by decide +kernel, by decide +kernel⟩
theorem sc_B_take_answer : FnScope ["self", "i", "what", "k", "ok", "step", "told"] ["self", "i", "what", "k", "ok"] (defScope s_B_take_answer) := ⟨rfl, rfl, rfl, by decide +kernel, rfl, by decide +kernel, by decide +kernel⟩
theorem sc_B_tick : FnScope ["self", "ticks"] ["self", "ticks"] (defScope s_B_tick) := ⟨rfl, rfl, rfl, by decide +kernel, rfl, by decide +kernel, by decide +kernel⟩
theorem sc_B_turn_back : FnScope ["self", "step"] ["self"] (defScope s_B_turn_back) := ⟨rfl, rfl, rfl, by decide +kernel, rfl, by decide +kernel, by decide +kernel⟩
theorem sc_B_tell_step : FnScope ["self", "i", "step"] ["self", "i"] (defScope s_B_tell_step) := ⟨rfl, rfl, rfl, by decide +kernel, rfl, by decide +kernel, by decide +kernel⟩
theorem sc_B_settle : FnScope ["self", "step"] ["self"] (defScope s_B_settle) := ⟨rfl, rfl, rfl, by decide +kernel, rfl, by decide +kernel, by decide +kernel⟩
theorem sc_D_init : FnScope ["self"] ["self"] (defScope s_D_init) := ⟨rfl, rfl, rfl, by decide +kernel, rfl, by decide +kernel, by decide +kernel⟩
theorem sc_D_take_call : FnScope ["self", "call"] ["self", "call"] (defScope s_D_take_call) := ⟨rfl, rfl, rfl, by decide +kernel, rfl, by decide +kernel, by decide +kernel⟩
theorem sc_D_number_for : FnScope ["self", "call"] ["self", "call"] (defScope s_D_number_for) := ⟨rfl, rfl, rfl, by decide +kernel, rfl, by decide +kernel, by decide +kernel⟩
theorem sc_D_start : FnScope ["self", "numbers", "steps"] ["self", "numbers"] (defScope s_D_start) := ⟨rfl, rfl, rfl, by decide +kernel, rfl, by decide +kernel, by decide +kernel⟩
theorem sc_F_read_steps : FnScope ["numbers", "at"] ["numbers"] (defScope s_F_read_steps) := ⟨rfl, rfl, rfl, by decide +kernel, rfl, by decide +kernel, by decide +kernel⟩
theorem sc_F_are_steps_fit : FnScope ["steps", "place", "step", "points"] ["steps"] (defScope s_F_are_steps_fit) := ⟨rfl, rfl, rfl, by decide +kernel, rfl, by decide +kernel, by decide +kernel⟩
theorem sc_F_is_step_fit : FnScope ["place", "step"] ["place", "step"] (defScope s_F_is_step_fit) := ⟨rfl, rfl, rfl, by decide +kernel, rfl, by decide +kernel, by decide +kernel⟩
theorem sc_F_are_kinds_fit : FnScope ["steps", "point", "reach", "place", "step"] ["steps", "point"] (defScope s_F_are_kinds_fit) := ⟨rfl, rfl, rfl, by decide +kernel, rfl, by decide +kernel, by decide +kernel⟩
theorem sc_F_all_needs : FnScope ["steps", "reach", "step", "bits", "place", "further"] ["steps"] (defScope s_F_all_needs) := ⟨rfl, rfl, rfl, by decide +kernel, rfl, by decide +kernel, by decide +kernel⟩
theorem sc_F_call_size : FnScope ["calls", "at"] ["calls", "at"] (defScope s_F_call_size) := ⟨rfl, rfl, rfl, by decide +kernel, rfl, by decide +kernel, by decide +kernel⟩
theorem sc_F_answers : FnScope ["calls", "desk", "told", "at", "size", "answered"] ["calls"] (defScope s_F_answers) := ⟨rfl, rfl, rfl, by decide +kernel, rfl, by decide +kernel, by decide +kernel⟩
noncomputable def vN (n : Nat) : V := .int (n : Int)
/-! ### the objects' attributes -/
noncomputable def tf (w : Nat) (l : Addr) (last : Nat) (well : Bool) : List (Str × V) := [("wait", vN w), ("replies", .ref l), ("last_time", vN last), ("well", .bl well)]
noncomputable def sf (needs wait tries kind : Nat) (d u : Addr) : List (Str × V) := [("needs", vN needs), ("wait", vN wait), ("tries", vN tries), ("kind", vN kind), ("doing", .ref d), ("undoing", .ref u)]
noncomputable def bf (L : Addr) (now way : Nat) : List (Str × V) := [("steps", .ref L), ("now", vN now), ("way", vN way)]
noncomputable def df (b : V) : List (Str × V) := [("business", b)]
/-- Tellings t stand at a, their list at l -/
structure TAt (A : Ad) (H : Hp) (a l : Addr) (w : Nat) (t : MT) : Prop where
  ob : ∃ dx, H a = some (.ins A.CT dx (tf w l t.last t.well))
  ls : H l = some (.lst (t.rs.map vN))
structure SAt (A : Ad) (H : Hp) (s : Addr) (a l : Bool → Addr) (m : MS) : Prop where
  ob : ∃ dx, H s = some (.ins A.CS dx (sf m.needs m.wait m.tries m.kind (a false) (a true)))
  tl : ∀ c, TAt A H (a c) (l c) m.wait (m.tl c)
/-- where the objects of a list of steps stand -/
structure Lay where
  s : Nat → Addr
  a : Nat → Bool → Addr
  l : Nat → Bool → Addr
structure Ls (A : Ad) (H : Hp) (L : Addr) (y : Lay) (ms : List MS) : Prop where
  ls : H L = some (.lst ((List.range ms.length).map fun i => V.ref (y.s i)))
  st : ∀ i m, ms[i]? = some m → SAt A H (y.s i) (y.a i) (y.l i) m
  ia : ∀ i c j e, i < ms.length → j < ms.length → y.a i c = y.a j e → i = j ∧ c = e
  il : ∀ i c j e, i < ms.length → j < ms.length → y.l i c = y.l j e → i = j ∧ c = e
  nl : ∀ i c, i < ms.length → y.l i c ≠ L
structure BAt (A : Ad) (H : Hp) (p L : Addr) (y : Lay) (b : MB) : Prop where
  ob : ∃ dx, H p = some (.ins A.CB dx (bf L b.now b.way))
  ls : Ls A H L y b.steps
theorem TAt.mono {A : Ad} {H H' : Hp} {a l : Addr} {w : Nat} {t : MT} (x : TAt A H a l w t) (s : Same H H') : TAt A H' a l w t := by
  obtain ⟨⟨dx, h⟩, h2⟩ := x
  exact ⟨⟨dx, s _ _ h⟩, s _ _ h2⟩
theorem SAt.mono {A : Ad} {H H' : Hp} {z : Addr} {a l : Bool → Addr} {m : MS} (x : SAt A H z a l m) (s : Same H H') : SAt A H' z a l m := by
  obtain ⟨⟨dx, h⟩, h2⟩ := x
  exact ⟨⟨dx, s _ _ h⟩, fun c => (h2 c).mono s⟩
theorem Ls.mono {A : Ad} {H H' : Hp} {L : Addr} {y : Lay} {ms : List MS} (x : Ls A H L y ms) (s : Same H H') : Ls A H' L y ms :=
  ⟨s _ _ x.ls, fun i m h => (x.st i m h).mono s, x.ia, x.il, x.nl⟩
theorem BAt.mono {A : Ad} {H H' : Hp} {p L : Addr} {y : Lay} {b : MB} (x : BAt A H p L y b) (s : Same H H') : BAt A H' p L y b := by
  obtain ⟨⟨dx, h⟩, h2⟩ := x
  exact ⟨⟨dx, s _ _ h⟩, h2.mono s⟩
theorem Same.upd {H : Hp} {a : Addr} {o : HO} (h : H a = none) : Same H (upd H a o) := fun b u e => by rw [upd_ne (ne_of_none e h)]; exact e
/-! ### readings: an attribute, a method's receiver -/
section
variable {K : PySem.W.Frag} {H : Hp} {a C dx : Addr} {fs : List (Str × V)} {v : V} {f : Str} {Q : V → Prop}
theorem rfl_ (h : H a = some (.ins C dx fs)) (c : Cls K C) (n : NoAttr K C f) (l : fs.lookup f = some v) (k : Q v) :
    ∃ a' C' dx' fs' v', V.ref a = .ref a' ∧ H a' = some (.ins C' dx' fs') ∧ Cls K C' ∧ NoAttr K C' f ∧ fs'.lookup f = some v' ∧ Q v' := ⟨a, C, dx, fs, v, rfl, h, c, n, l, k⟩
end
section
variable {K : PySem.W.Frag} {mg : Str → Option Value} {A : Ad} {H : Hp} {a l : Addr} {w : Nat} {t : MT} {Q : V → Prop}
theorem qT_wait (T : Txt K mg A) (x : TAt A H a l w t) (k : Q (vN w)) : ∃ a' C' dx' fs' v', V.ref a = .ref a' ∧ H a' = some (.ins C' dx' fs') ∧ Cls K C' ∧ NoAttr K C' "wait" ∧ fs'.lookup ("wait" : Str) = some v' ∧ Q v' := by
  obtain ⟨⟨dx, h⟩, _⟩ := x
  exact rfl_ h T.clT T.nT_wait rfl k
theorem qT_replies (T : Txt K mg A) (x : TAt A H a l w t) (k : Q (.ref l)) : ∃ a' C' dx' fs' v', V.ref a = .ref a' ∧ H a' = some (.ins C' dx' fs') ∧ Cls K C' ∧ NoAttr K C' "replies" ∧ fs'.lookup ("replies" : Str) = some v' ∧ Q v' := by
  obtain ⟨⟨dx, h⟩, _⟩ := x
  exact rfl_ h T.clT T.nT_replies rfl k
theorem qT_last (T : Txt K mg A) (x : TAt A H a l w t) (k : Q (vN t.last)) : ∃ a' C' dx' fs' v', V.ref a = .ref a' ∧ H a' = some (.ins C' dx' fs') ∧ Cls K C' ∧ NoAttr K C' "last_time" ∧ fs'.lookup ("last_time" : Str) = some v' ∧ Q v' := by
  obtain ⟨⟨dx, h⟩, _⟩ := x
  exact rfl_ h T.clT T.nT_last_time rfl k
theorem qT_well (T : Txt K mg A) (x : TAt A H a l w t) (k : Q (.bl t.well)) : ∃ a' C' dx' fs' v', V.ref a = .ref a' ∧ H a' = some (.ins C' dx' fs') ∧ Cls K C' ∧ NoAttr K C' "well" ∧ fs'.lookup ("well" : Str) = some v' ∧ Q v' := by
  obtain ⟨⟨dx, h⟩, _⟩ := x
  exact rfl_ h T.clT T.nT_well rfl k
/-- a method of Tellings is called -/
theorem cT {m : Str} {R : Prop} (x : TAt A H a l w t) (n : ∀ w l z b, (tf w l z b).lookup m = none) (k : R) : ∃ a' dx' fs', V.ref a = .ref a' ∧ H a' = some (.ins A.CT dx' fs') ∧ fs'.lookup m = none ∧ R := by
  obtain ⟨⟨dx, h⟩, _⟩ := x
  exact ⟨a, dx, _, rfl, h, n _ _ _ _, k⟩
end
section
variable {K : PySem.W.Frag} {mg : Str → Option Value} {A : Ad} {H : Hp} {z : Addr} {a l : Bool → Addr} {m : MS} {Q : V → Prop}
theorem qS_needs (T : Txt K mg A) (x : SAt A H z a l m) (k : Q (vN m.needs)) : ∃ a' C' dx' fs' v', V.ref z = .ref a' ∧ H a' = some (.ins C' dx' fs') ∧ Cls K C' ∧ NoAttr K C' "needs" ∧ fs'.lookup ("needs" : Str) = some v' ∧ Q v' := by
  obtain ⟨⟨dx, h⟩, _⟩ := x
  exact rfl_ h T.clS T.nS_needs rfl k
theorem qS_wait (T : Txt K mg A) (x : SAt A H z a l m) (k : Q (vN m.wait)) : ∃ a' C' dx' fs' v', V.ref z = .ref a' ∧ H a' = some (.ins C' dx' fs') ∧ Cls K C' ∧ NoAttr K C' "wait" ∧ fs'.lookup ("wait" : Str) = some v' ∧ Q v' := by
  obtain ⟨⟨dx, h⟩, _⟩ := x
  exact rfl_ h T.clS T.nS_wait rfl k
theorem qS_tries (T : Txt K mg A) (x : SAt A H z a l m) (k : Q (vN m.tries)) : ∃ a' C' dx' fs' v', V.ref z = .ref a' ∧ H a' = some (.ins C' dx' fs') ∧ Cls K C' ∧ NoAttr K C' "tries" ∧ fs'.lookup ("tries" : Str) = some v' ∧ Q v' := by
  obtain ⟨⟨dx, h⟩, _⟩ := x
  exact rfl_ h T.clS T.nS_tries rfl k
theorem qS_kind (T : Txt K mg A) (x : SAt A H z a l m) (k : Q (vN m.kind)) : ∃ a' C' dx' fs' v', V.ref z = .ref a' ∧ H a' = some (.ins C' dx' fs') ∧ Cls K C' ∧ NoAttr K C' "kind" ∧ fs'.lookup ("kind" : Str) = some v' ∧ Q v' := by
  obtain ⟨⟨dx, h⟩, _⟩ := x
  exact rfl_ h T.clS T.nS_kind rfl k
theorem qS_doing (T : Txt K mg A) (x : SAt A H z a l m) (k : Q (.ref (a false))) : ∃ a' C' dx' fs' v', V.ref z = .ref a' ∧ H a' = some (.ins C' dx' fs') ∧ Cls K C' ∧ NoAttr K C' "doing" ∧ fs'.lookup ("doing" : Str) = some v' ∧ Q v' := by
  obtain ⟨⟨dx, h⟩, _⟩ := x
  exact rfl_ h T.clS T.nS_doing rfl k
theorem qS_undoing (T : Txt K mg A) (x : SAt A H z a l m) (k : Q (.ref (a true))) : ∃ a' C' dx' fs' v', V.ref z = .ref a' ∧ H a' = some (.ins C' dx' fs') ∧ Cls K C' ∧ NoAttr K C' "undoing" ∧ fs'.lookup ("undoing" : Str) = some v' ∧ Q v' := by
  obtain ⟨⟨dx, h⟩, _⟩ := x
  exact rfl_ h T.clS T.nS_undoing rfl k
theorem cS {n_ : Str} {R : Prop} (x : SAt A H z a l m) (h : ∀ n w t k d u, (sf n w t k d u).lookup n_ = none) (k : R) : ∃ a' dx' fs', V.ref z = .ref a' ∧ H a' = some (.ins A.CS dx' fs') ∧ fs'.lookup n_ = none ∧ R := by
  obtain ⟨⟨dx, e⟩, _⟩ := x
  exact ⟨z, dx, _, rfl, e, h _ _ _ _ _ _, k⟩
end
section
variable {K : PySem.W.Frag} {mg : Str → Option Value} {A : Ad} {H : Hp} {p L : Addr} {y : Lay} {b : MB} {Q : V → Prop}
theorem qB_steps (T : Txt K mg A) (x : BAt A H p L y b) (k : Q (.ref L)) : ∃ a' C' dx' fs' v', V.ref p = .ref a' ∧ H a' = some (.ins C' dx' fs') ∧ Cls K C' ∧ NoAttr K C' "steps" ∧ fs'.lookup ("steps" : Str) = some v' ∧ Q v' := by
  obtain ⟨⟨dx, h⟩, _⟩ := x
  exact rfl_ h T.clB T.nB_steps rfl k
theorem qB_now (T : Txt K mg A) (x : BAt A H p L y b) (k : Q (vN b.now)) : ∃ a' C' dx' fs' v', V.ref p = .ref a' ∧ H a' = some (.ins C' dx' fs') ∧ Cls K C' ∧ NoAttr K C' "now" ∧ fs'.lookup ("now" : Str) = some v' ∧ Q v' := by
  obtain ⟨⟨dx, h⟩, _⟩ := x
  exact rfl_ h T.clB T.nB_now rfl k
theorem qB_way (T : Txt K mg A) (x : BAt A H p L y b) (k : Q (vN b.way)) : ∃ a' C' dx' fs' v', V.ref p = .ref a' ∧ H a' = some (.ins C' dx' fs') ∧ Cls K C' ∧ NoAttr K C' "way" ∧ fs'.lookup ("way" : Str) = some v' ∧ Q v' := by
  obtain ⟨⟨dx, h⟩, _⟩ := x
  exact rfl_ h T.clB T.nB_way rfl k
theorem cB {m : Str} {R : Prop} (x : BAt A H p L y b) (h : ∀ n w t, (bf n w t).lookup m = none) (k : R) : ∃ a' dx' fs', V.ref p = .ref a' ∧ H a' = some (.ins A.CB dx' fs') ∧ fs'.lookup m = none ∧ R := by
  obtain ⟨⟨dx, e⟩, _⟩ := x
  exact ⟨p, dx, _, rfl, e, h _ _ _, k⟩
end
end LD
namespace LD
open PySem L2
/-! ### bits -/
theorem bAnd (a b : Nat) : Builtin.bitAnd (a : Int) (b : Int) = ((a &&& b : Nat) : Int) := by
  unfold Builtin.bitAnd
  rw [decide_eq_true (Int.natCast_nonneg a), decide_eq_true (Int.natCast_nonneg b)]
  rfl
theorem bOr (a b : Nat) : Builtin.bitOr (a : Int) (b : Int) = ((a ||| b : Nat) : Int) := by
  unfold Builtin.bitOr Builtin.bitAnd Builtin.bitNot
  rw [decide_eq_false (by omega), decide_eq_false (by omega)]
  have e1 : (-(-(a : Int) - 1) - 1).toNat = a := by omega
  have e2 : (-(-(b : Int) - 1) - 1).toNat = b := by omega
  show -(-(((-(-(a : Int) - 1) - 1).toNat ||| (-(-(b : Int) - 1) - 1).toNat : Nat) : Int) - 1) - 1 = _
  rw [e1, e2]
  omega
theorem shrN (a i : Nat) : (a : Int) / 2 ^ ((i : Int)).toNat = ((a >>> i : Nat) : Int) := by
  rw [Int.toNat_natCast, Nat.shiftRight_eq_div_pow]
  have : (2 : Int) ^ i = ((2 ^ i : Nat) : Int) := by rw [Int.natCast_pow]; rfl
  rw [this]
  rfl
theorem shl1 (i : Nat) : (1 : Int) * 2 ^ ((i : Int)).toNat = ((2 ^ i : Nat) : Int) := by
  rw [Int.toNat_natCast, Int.one_mul, Int.natCast_pow]
  rfl
theorem bit01 (a i : Nat) : Builtin.bitAnd ((a >>> i : Nat) : Int) 1 = if a.testBit i then 1 else 0 := by
  have h := bAnd (a >>> i) 1
  have h1 : Builtin.bitAnd ((a >>> i : Nat) : Int) 1 = (((a >>> i) &&& 1 : Nat) : Int) := h
  rw [h1]
  unfold Nat.testBit
  rw [Nat.and_comm]
  have hh : 1 &&& (a >>> i) = (a >>> i) % 2 := by rw [Nat.and_comm, Nat.and_one_is_mod]
  rw [hh]
  by_cases e : (a >>> i) % 2 = 0
  · rw [e]; rfl
  · have e1 : (a >>> i) % 2 = 1 := by omega
    rw [e1]; rfl
/-! ### within a comprehension's block: what is read hangs on K alone -/
section
variable {X : Cx} {K : PySem.W.Frag}
theorem pe_fldK {e : Expr} {ta : TE} {f : Str} {pos : Pos} (hK : X.K = K) (he : PE X e ta) (hb : attributeBase e f X.env (eval e X.env) = eval e X.env) : PE X (.Attribute e f pos) (tFld K ta f) := by
  subst hK
  exact pe_fld he hb
theorem ix_listK (hK : X.K = K) : IxR X (rIxL K) := by
  subst hK
  exact ix_list
theorem ix_tupK (hK : X.K = K) : IxR X (rIxT K) := by
  subst hK
  exact ix_tup
theorem sl_listK (hK : X.K = K) : SlR X (rSlL K) := by
  subst hK
  exact sl_list
theorem ps_fldK {o value : Expr} {ta tv : TE} {f : Str} {pos' pos : Pos} (hK : X.K = K) (ha : PE X o ta) (hv : PE X value tv) (hs : swapsWith value (some (.Attribute o f pos')) pos.line X.env = pure false) : PS X (.Assign [.Attribute o f pos'] value pos) (sFld K ta tv f) := by
  subst hK
  exact ps_fld ha hv hs
theorem ps_fldaugK {o value : Expr} {ta tv : TE} {f : Str} {tpos pos : Pos} {op : Operator} {rd : V → V → Hp → VK → Prop} (hK : X.K = K) (ha : PE X o ta) (hv : PE X value tv) (hop : InOp X op rd) : PS X (.AugAssign (.Attribute o f tpos) op value pos) (sFldAug K ta tv rd f) := by
  subst hK
  exact ps_fldaug ha hv hop
noncomputable def rLen (K : PySem.W.Frag) : List V → Hp → VK → Prop := fun xs H Q => ∃ p ys, xs = [.ref p] ∧ (SqL K H p ys ∨ SqT K H p ys) ∧ Q (.int ys.length) H
theorem call_lenK (hK : X.K = K) : CallR X (.builtin "len") (rLen K) := by
  subst hK
  exact call_len_seq
theorem cr_anyK (hK : X.K = K) (hc : X.calm = true) : CallR X (.builtin "any") (rAny K) := by
  subst hK
  exact cr_any hc
theorem cr_allK (hK : X.K = K) (hc : X.calm = true) : CallR X (.builtin "all") (rAll K) := by
  subst hK
  exact cr_all hc
theorem pi_listK {l tg : Expr} {tl : TE} (hK : X.K = K) (hl : PE X l tl) : PI X tg l (iList K tl) := by
  subst hK
  exact pi_list hl
theorem pi_enumK {e : Expr} {ta : TA} {p pos tpos : Pos} {elts : List Expr} {kk : Nat} (hK : X.K = K) (hg : Gl X "enumerate") (hm : X.mg "enumerate" = none) (ha : PA X [e] ta) (hs : starEach [e] X.env = [(false, eval e X.env)] := by rfl) :
    PI X (.Tuple elts kk tpos) (.Call (.Name "enumerate" p) [e] [] pos) (iEnum K ta) := by
  subst hK
  exact pi_enum hg hm ha hs
theorem pg_tupK {es : List Expr} {k : Nat} {t : TGs} {n : Nat} {pos : Pos} (hK : X.K = K) (hc : X.calm = true) (h : PGs X es t)
    (hn : (assignEach es X.env).length = n := by rfl) (hst : (assignEach es X.env).findIdx? (·.1) = none := by rfl) : PG X (.Tuple es k pos) (gTup K n t) := by
  subst hK
  exact pg_tup hc h hn hst
end
/-! ### enumerate -/
theorem for_enum {K : PySem.W.Frag} {a : Addr} {xs : List V} {p q : Nat} {tb : TS} {D : Ends} {σ : St} {H : Hp} (Pv : Nat → St → Hp → Prop) (h0 : Pv 0 σ H) (hl : ∀ i σ H, i ≤ xs.length → Pv i σ H → SqL K H a xs)
    (hs : ∀ i x σ H t, xs[i]? = some x → Pv i σ H → H t = none → tb { D with nx := Pv (i + 1), ct := Pv (i + 1), bk := D.nx } ((σ.set p (some (.int (i : Nat)))).set q (some x)) (upd H t (.tup [.int (i : Nat), x]))) (hd : ∀ σ H, Pv xs.length σ H → D.nx σ H) :
    ∃ W : Nat → Nat → St → Hp → Prop, (∃ m, W 0 m σ H) ∧ ∀ i m σ H, W i m σ H →
      ((Ite K a).stop i H ∧ D.nx σ H) ∨ ((Ite K a).go i H ∧ ∃ N : St → Hp → Prop, (∀ σ' H', N σ' H' → ∃ m', m' < m ∧ W (i + 1) m' σ' H') ∧ ∀ x H', (Ite K a).yld i H x H' → gTup K 2 (gCons (gName p) (gCons (gName q) gNil)) x σ H' fun σ2 H2 => tb { D with nx := N, ct := N, bk := D.nx } σ2 H2) := by
  refine ⟨fun i m σ H => m = xs.length - i ∧ i ≤ xs.length ∧ Pv i σ H, ⟨xs.length, by simp, Nat.zero_le _, h0⟩, ?_⟩
  rintro i m σ H ⟨rfl, hi, pv⟩
  have qq := hl i σ H hi pv
  by_cases hlt : i < xs.length
  · refine .inr ⟨⟨xs, xs[i], qq, by simp [hlt]⟩, Pv (i + 1), fun σ' H' p' => ⟨xs.length - (i + 1), by omega, rfl, hlt, p'⟩, fun v H' y => ?_⟩
    obtain ⟨t, x, rfl, ht, rfl, hx⟩ := y
    exact ⟨t, _, rfl, SqT.of upd_same, rfl, _, _, rfl, _, _, rfl, rfl, hs i x σ H t (hx xs qq) pv ht⟩
  · have e : i = xs.length := by omega
    subst e
    exact .inl ⟨⟨xs, qq, Nat.le_refl _⟩, hd σ H pv⟩
/-! ### comprehensions -/
theorem lc_enum {K : PySem.W.Frag} {a : Addr} {xs : List V} {p q : Nat} {tt : TT} {te : TE} {vs : List Nat} {σ : St} {H1 : Hp} {D : Addr} {Qd : Hp → Prop} (Pv : Nat → Hp → Prop) (h0 : Pv 0 (upd H1 D (.lst []))) (hl : ∀ i H, i ≤ xs.length → Pv i H → SqL K H a xs)
    (hw : ∀ v w, wipe (((wipe σ vs).set p v).set q w) vs = wipe σ vs)
    (hs : ∀ i x H t, xs[i]? = some x → Pv i H → H t = none → tt (((wipe σ vs).set p (some (.int (i : Nat)))).set q (some x)) (upd H t (.tup [.int (i : Nat), x])) fun b H3 =>
      if b = true then te (((wipe σ vs).set p (some (.int (i : Nat)))).set q (some x)) H3 fun y H4 => ∃ acc, H4 D = some (.lst acc) ∧ acc.length < sizeLine ∧ Pv (i + 1) (upd H4 D (.lst (acc ++ [y]))) else Pv (i + 1) H3) (hd : ∀ H, Pv xs.length H → Qd H) :
    ∃ W : Nat → Nat → Hp → Prop, (∃ m, W 0 m (upd H1 D (.lst []))) ∧ ∀ i m H, W i m H →
      ((Ite K a).stop i H ∧ Qd H) ∨ ((Ite K a).go i H ∧ ∃ Nx : Hp → Prop, (∀ H', Nx H' → ∃ m', m' < m ∧ W (i + 1) m' H') ∧ ∀ x H', (Ite K a).yld i H x H' → gTup K 2 (gCons (gName p) (gCons (gName q) gNil)) x (wipe σ vs) H' fun σ2 H2 => wipe σ2 vs = wipe σ vs ∧ tt σ2 H2 fun b H3 =>
        if b = true then te σ2 H3 fun y H4 => ∃ acc, H4 D = some (.lst acc) ∧ acc.length < sizeLine ∧ Nx (upd H4 D (.lst (acc ++ [y]))) else Nx H3) := by
  refine ⟨fun i m H => m = xs.length - i ∧ i ≤ xs.length ∧ Pv i H, ⟨xs.length, by simp, Nat.zero_le _, h0⟩, ?_⟩
  rintro i m H ⟨rfl, hi, pv⟩
  have qq := hl i H hi pv
  by_cases hlt : i < xs.length
  · refine .inr ⟨⟨xs, xs[i], qq, by simp [hlt]⟩, Pv (i + 1), fun H' p' => ⟨xs.length - (i + 1), by omega, rfl, hlt, p'⟩, fun v H' y => ?_⟩
    obtain ⟨t, x, rfl, ht, rfl, hx⟩ := y
    exact ⟨t, _, rfl, SqT.of upd_same, rfl, _, _, rfl, _, _, rfl, rfl, hw _ _, hs i x H t (hx xs qq) pv ht⟩
  · have e : i = xs.length := by omega
    subst e
    exact .inl ⟨⟨xs, qq, Nat.le_refl _⟩, hd H pv⟩
theorem lc_rangeC {lo c : Int} {n : Nat} {g : TG} {tt : TT} {te : TE} {vs : List Nat} {σ : St} {H1 : Hp} {D : Addr} {Qd : Hp → Prop} (Pv : Nat → Hp → Prop) (h0 : Pv 0 (upd H1 D (.lst [])))
    (hs : ∀ i H, i < n → Pv i H → g (.int (lo + (i : Nat) * c)) (wipe σ vs) H fun σ2 H2 => wipe σ2 vs = wipe σ vs ∧ tt σ2 H2 fun b H3 =>
      if b = true then te σ2 H3 fun y H4 => ∃ acc, H4 D = some (.lst acc) ∧ acc.length < sizeLine ∧ Pv (i + 1) (upd H4 D (.lst (acc ++ [y]))) else Pv (i + 1) H3) (hd : ∀ H, Pv n H → Qd H) :
    ∃ W : Nat → Nat → Hp → Prop, (∃ m, W 0 m (upd H1 D (.lst []))) ∧ ∀ i m H, W i m H →
      ((Itc lo c n).stop i H ∧ Qd H) ∨ ((Itc lo c n).go i H ∧ ∃ Nx : Hp → Prop, (∀ H', Nx H' → ∃ m', m' < m ∧ W (i + 1) m' H') ∧ ∀ x H', (Itc lo c n).yld i H x H' → g x (wipe σ vs) H' fun σ2 H2 => wipe σ2 vs = wipe σ vs ∧ tt σ2 H2 fun b H3 =>
        if b = true then te σ2 H3 fun y H4 => ∃ acc, H4 D = some (.lst acc) ∧ acc.length < sizeLine ∧ Nx (upd H4 D (.lst (acc ++ [y]))) else Nx H3) := by
  refine ⟨fun i m H => m = n - i ∧ i ≤ n ∧ Pv i H, ⟨n, by simp, Nat.zero_le _, h0⟩, ?_⟩
  rintro i m H ⟨rfl, hi, pv⟩
  by_cases hlt : i < n
  · refine .inr ⟨hlt, Pv (i + 1), fun H' p' => ⟨n - (i + 1), by omega, rfl, hlt, p'⟩, fun x H' y => ?_⟩
    obtain ⟨e, y⟩ := y
    subst e y
    exact hs i _ hlt pv
  · have e : i = n := by omega
    subst e
    exact .inl ⟨Nat.le_refl _, hd H pv⟩
/-- the places of a list of steps -/
noncomputable def refs (y : Lay) (n : Nat) : List V := (List.range n).map fun i => V.ref (y.s i)
theorem refs_len (y : Lay) (n : Nat) : (refs y n).length = n := by unfold refs; rw [List.length_map, List.length_range]
theorem refs_at {y : Lay} {n i : Nat} {x : V} (h : (refs y n)[i]? = some x) : i < n ∧ x = .ref (y.s i) := by
  unfold refs at h
  rw [List.getElem?_map] at h
  by_cases hi : i < n
  · rw [List.getElem?_range hi] at h
    exact ⟨hi, (Option.some.inj h).symm⟩
  · rw [List.getElem?_eq_none (by rw [List.length_range]; omega)] at h
    cases h
theorem refs_get {y : Lay} {n i : Nat} (h : i < n) : (refs y n)[i]? = some (.ref (y.s i)) := by
  unfold refs
  rw [List.getElem?_map, List.getElem?_range h]
  rfl
theorem tyes {σ : St} {H : Hp} {A B : Hp → Prop} (h : A H) : tYes σ H fun b H3 => if b = true then A H3 else B H3 := iteT (A := A H) (B := B H) h
/-- [b of step for step in steps]: a list of truth values -/
theorem lc_bl {K : PySem.W.Frag} {A : Ad} {L : Addr} {y : Lay} {ms : List MS} {p : Nat} {te : TE} {vs : List Nat} {σ : St} {H1 : Hp} {D : Addr} {Qd : Hp → Prop} (f : MS → Bool) (hx : Ls A H1 L y ms) (hD : H1 D = none) (hz : ms.length < sizeLine)
    (hw : ∀ v, wipe ((wipe σ vs).set p v) vs = wipe σ vs)
    (hs : ∀ i m H Q, ms[i]? = some m → Same H1 H → Q (V.bl (f m)) H → te ((wipe σ vs).set p (some (.ref (y.s i)))) H Q)
    (hd : ∀ H, Same H1 H → H D = some (.lst ((ms.map f).map V.bl)) → Qd H) :
    ∃ W : Nat → Nat → Hp → Prop, (∃ m, W 0 m (upd H1 D (.lst []))) ∧ ∀ i m H, W i m H →
      ((Itl K L).stop i H ∧ Qd H) ∨ ((Itl K L).go i H ∧ ∃ Nx : Hp → Prop, (∀ H', Nx H' → ∃ m', m' < m ∧ W (i + 1) m' H') ∧ ∀ x H', (Itl K L).yld i H x H' → gName p x (wipe σ vs) H' fun σ2 H2 => wipe σ2 vs = wipe σ vs ∧ tYes σ2 H2 fun b H3 =>
        if b = true then te σ2 H3 fun y H4 => ∃ acc, H4 D = some (.lst acc) ∧ acc.length < sizeLine ∧ Nx (upd H4 D (.lst (acc ++ [y]))) else Nx H3) := by
  refine lc_list (xs := refs y ms.length) (fun i H => Same H1 H ∧ H D = some (.lst (((ms.take i).map f).map V.bl))) ⟨fun b o e => by rw [upd_ne (ne_of_none e hD)]; exact e, upd_same⟩ (fun i H _ h => SqL.of (h.1 _ _ hx.ls)) (fun i x H hi h => ?_) (fun H h => hd H h.1 (by have h2 := h.2; rw [refs_len, List.take_length] at h2; exact h2))
  obtain ⟨hlt, rfl⟩ := refs_at hi
  have em : ms[i]? = some ms[i] := List.getElem?_eq_getElem hlt
  refine ⟨hw _, ?_⟩
  refine tyes (hs i ms[i] H _ em h.1 ⟨_, h.2, ?_, ?_, ?_⟩)
  · rw [List.length_map, List.length_map, List.length_take]
    omega
  · exact fun b o e => by rw [upd_ne (ne_of_none e hD)]; exact h.1 b o e
  · rw [upd_same, List.take_succ_eq_append_getElem hlt, List.map_append, List.map_append]
    rfl
theorem map_any (ms : List MS) (f : MS → Bool) : (ms.map f).any id = ms.any f := by rw [List.any_map]; rfl
theorem map_all (ms : List MS) (f : MS → Bool) : (ms.map f).all id = ms.all f := by rw [List.all_map]; rfl
end LD
namespace LD
open PySem L2
section
variable {P : Program} {w : World} {K : PySem.W.Frag} {mg : Str → Option Value} {base : Heap} {A : Ad}
noncomputable def spT_init (A : Ad) : Sp := fun vs H Q _ => ∃ (p dx : Addr) (wt : Nat), vs = [.ref p, vN wt] ∧ H p = some (.ins A.CT dx []) ∧
  ∀ (l : Addr) (H' : Hp), TAt A H' p l wt ⟨[], 0, false⟩ → H l = none → (∀ b o, H b = some o → b ≠ p → H' b = some o) → Q .non H'
theorem ok_T_init (T : Txt K mg A) : ∃ fd, Binds K fd ["self", "wait"] [] ∧ FnOk P w K mg base CX0 1 A.T_init fd ["self", "wait"] (spT_init A) := by
  obtain ⟨fd, F, b⟩ := T.f_T_init
  refine ⟨fd, b, F.ok sc_T_init (fun vs H Q E h => ?_) (fun cdv AA outer s H vs Q E hr h => ?_)⟩
  · obtain ⟨p, dx, wt, rfl, _⟩ := h
    rfl
  · obtain ⟨p, dx, wt, rfl, hp, k⟩ := h
    refine ⟨_, pss_cons (ps_fldK (K := K) rfl (pv 0) (pv 1) rfl) (pss_cons (ps_fldK (K := K) rfl (pv 0) (pe_lst pa_nil) rfl) (pss_cons (ps_fldK (K := K) rfl (pv 0) pe_int rfl) (pss_one (ps_fldK (K := K) rfl (pv 0) pe_bl rfl)))), ?_⟩
    refine ⟨_, rfl, _, rfl, p, A.CT, dx, _, rfl, hp, T.clT, T.nT_wait, by decide, ?_⟩
    refine ⟨by decide, fun l hl => ?_⟩
    have npl : p ≠ l := ne_of_none upd_same hl
    have hl0 : H l = none := by rw [upd_ne npl.symm] at hl; exact hl
    refine ⟨_, rfl, p, A.CT, dx, _, rfl, (by rw [upd_ne npl]; exact upd_same), T.clT, T.nT_replies, (by show 1 < 1000; decide), ?_⟩
    refine ⟨_, rfl, p, A.CT, dx, _, rfl, upd_same, T.clT, T.nT_last_time, (by show 2 < 1000; decide), ?_⟩
    refine ⟨_, rfl, p, A.CT, dx, _, rfl, upd_same, T.clT, T.nT_well, (by show 3 < 1000; decide), ?_⟩
    refine k l _ ⟨⟨dx, upd_same⟩, ?_⟩ hl0 fun b o e hb => ?_
    · rw [upd_ne npl.symm, upd_ne npl.symm, upd_ne npl.symm, upd_same]
      rfl
    · rw [upd_ne hb, upd_ne hb, upd_ne hb, upd_ne (ne_of_none e hl0), upd_ne hb]
      exact e
noncomputable def spT_how (A : Ad) : Sp := fun vs H Q _ => ∃ (a l : Addr) (wt : Nat) (t : MT), vs = [.ref a] ∧ TAt A H a l wt t ∧ Q (vN t.rs.length) H
theorem ok_T_how_many (T : Txt K mg A) : ∃ fd, Binds K fd ["self"] [] ∧ FnOk P w K mg base CX0 1 A.T_how_many fd ["self"] (spT_how A) := by
  obtain ⟨fd, F, b⟩ := T.f_T_how_many
  refine ⟨fd, b, F.ok sc_T_how_many (fun vs H Q E h => ?_) (fun cdv AA outer s H vs Q E hr h => ?_)⟩
  · obtain ⟨a, l, wt, t, rfl, _⟩ := h
    rfl
  · obtain ⟨a, l, wt, t, rfl, x, k⟩ := h
    refine ⟨_, pss_one (ps_ret (pe_callB (call_lenK (K := K) rfl) (by rfl) T.z_len PySem.boot_len (pa_cons (pe_fldK (K := K) rfl (pv 0) rfl) pa_nil))), ?_⟩
    refine ⟨_, rfl, qT_replies T x ⟨l, _, rfl, .inl (SqL.of x.ls), ?_⟩⟩
    rw [List.length_map]
    exact k
noncomputable def spT_tell (A : Ad) : Sp := fun vs H Q _ => ∃ (a l : Addr) (wt now : Nat) (t : MT), vs = [.ref a, vN now] ∧ TAt A H a l wt t ∧ t.rs.length < sizeLine ∧
  ∀ H', TAt A H' a l wt (t.tell now) → (∀ b o, H b = some o → b ≠ a → b ≠ l → H' b = some o) → Q .non H'
theorem ok_T_tell (T : Txt K mg A) : ∃ fd, Binds K fd ["self", "now"] [] ∧ FnOk P w K mg base CX0 1 A.T_tell fd ["self", "now"] (spT_tell A) := by
  obtain ⟨fd, F, b⟩ := T.f_T_tell
  refine ⟨fd, b, F.ok sc_T_tell (fun vs H Q E h => ?_) (fun cdv AA outer s H vs Q E hr h => ?_)⟩
  · obtain ⟨a, l, wt, now, t, rfl, _⟩ := h
    rfl
  · obtain ⟨a, l, wt, now, t, rfl, x, hz, k⟩ := h
    obtain ⟨⟨dx, h1⟩, h2⟩ := id x
    have nal : a ≠ l := ne_of h1 h2 (by intro z; cases z)
    refine ⟨_, pss_cons (ps_expr (pe_bm PySem.F.plainAttrs_list PySem.F.slot_list_append PySem.F.type_list_append mt_append (pe_fldK (K := K) rfl (pv 0) rfl) (pa_cons (pe_glob (v := .int (0)) (by rfl) T.g_UNANSWERED ⟨_, rfl⟩) pa_nil))) (pss_one (ps_fldK (K := K) rfl (pv 0) (pv 1) rfl)), ?_⟩
    refine ⟨_, rfl, qT_replies T x ⟨.inl ⟨rfl, _, SqL.of h2⟩, l, _, _, rfl, rfl, h2, (by rw [List.length_map]; exact hz), ?_⟩⟩
    refine ⟨_, rfl, _, rfl, a, A.CT, dx, _, rfl, (by rw [upd_ne nal]; exact h1), T.clT, T.nT_last_time, (by show 4 < 1000; decide), ?_⟩
    refine k _ ⟨⟨dx, upd_same⟩, ?_⟩ fun b o e h1 h2 => ?_
    · rw [upd_ne nal.symm, upd_same]
      show _ = some (HO.lst ((t.rs ++ [0]).map vN))
      rw [List.map_append]
      rfl
    · rw [upd_ne h1, upd_ne h2]
      exact e
noncomputable def spT_take (A : Ad) : Sp := fun vs H Q _ => ∃ (a l : Addr) (wt kk r : Nat) (t : MT), vs = [.ref a, vN kk, vN r] ∧ TAt A H a l wt t ∧ t.isTold kk = true ∧
  ∀ H', TAt A H' a l wt (t.take kk r) → (∀ b o, H b = some o → b ≠ a → b ≠ l → H' b = some o) → Q .non H'
theorem ok_T_take_reply (T : Txt K mg A) : ∃ fd, Binds K fd ["self", "k", "reply"] [] ∧ FnOk P w K mg base CX0 1 A.T_take_reply fd ["self", "k", "reply"] (spT_take A) := by
  obtain ⟨fd, F, b⟩ := T.f_T_take_reply
  refine ⟨fd, b, F.ok sc_T_take_reply (fun vs H Q E h => ?_) (fun cdv AA outer s H vs Q E hr h => ?_)⟩
  · obtain ⟨a, l, wt, kk, r, t, rfl, _⟩ := h
    rfl
  · obtain ⟨a, l, wt, kk, r, t, rfl, x, hk, k⟩ := h
    obtain ⟨⟨dx, h1⟩, h2⟩ := id x
    have nal : a ≠ l := ne_of h1 h2 (by intro z; cases z)
    have hk' : 1 ≤ kk ∧ kk ≤ t.rs.length := by simpa [MT.isTold] using hk
    have hix : ixN (t.rs.map vN).length ((kk : Int) - 1) = some (kk - 1) := by
      rw [List.length_map]
      unfold ixN
      rw [if_pos (by omega), if_pos (by omega)]
      congr 1
      omega
    refine ⟨_, pss_cons (ps_asg (pv 2) (pg_sub (pe_fldK (K := K) rfl (pv 0) rfl) (pe_op op_sub (pv 1) pe_int) set_list)) (pss_one (ps_if (pt_cmpR op_eq (pv 2) (pe_glob (v := .int (2)) (by rfl) T.g_WELL ⟨_, rfl⟩) (nomark _)) (pss_one (ps_fldK (K := K) rfl (pv 0) pe_bl rfl)) pss_nil)), ?_⟩
    refine ⟨_, rfl, _, rfl, qT_replies T x ⟨_, rfl, _, _, rfl, rfl, l, _, _, _, rfl, rfl, h2, hix, ?_⟩⟩
    have hls : (t.rs.map vN).set (kk - 1) (vN r) = (t.rs.set (kk - 1) r).map vN := (List.map_set ..).symm
    refine ⟨_, rfl, rfl, _, rfl, ?_⟩
    refine ite2 (fun e => ?_) (fun e => ?_)
    · have e' : r = 2 := by
        have e := of_decide_eq_true e
        simp only [vN, V.int.injEq] at e
        omega
      refine ⟨_, rfl, a, A.CT, dx, _, rfl, (by rw [upd_ne nal]; exact h1), T.clT, T.nT_well, (by show 4 < 1000; decide), ?_⟩
      refine k _ ⟨⟨dx, ?_⟩, ?_⟩ fun b o e h1 h2 => ?_
      · rw [upd_same]
        show some (HO.ins A.CT dx (tf wt l t.last true)) = some (HO.ins A.CT dx (tf wt l t.last (t.well || decide (r = 2))))
        rw [decide_eq_true e', Bool.or_true]
      · rw [upd_ne nal.symm, upd_same, hls]
        rfl
      · rw [upd_ne h1, upd_ne h2]
        exact e
    · have e' : ¬ r = 2 := fun z => e (decide_eq_true (by subst z; rfl))
      refine k _ ⟨⟨dx, ?_⟩, ?_⟩ fun b o e h1 h2 => ?_
      · rw [upd_ne nal]
        show _ = some (HO.ins A.CT dx (tf wt l t.last (t.well || decide (r = 2))))
        rw [decide_eq_false e', Bool.or_false]
        exact h1
      · rw [upd_same, hls]
        rfl
      · rw [upd_ne h2]
        exact e
noncomputable def spT_isTold (A : Ad) : Sp := fun vs H Q _ => ∃ (a l : Addr) (wt kk : Nat) (t : MT), vs = [.ref a, vN kk] ∧ TAt A H a l wt t ∧ Q (.bl (t.isTold kk)) H
theorem ok_T_is_told (T : Txt K mg A) : ∃ fd, Binds K fd ["self", "k"] [] ∧ FnOk P w K mg base CX0 1 A.T_is_told fd ["self", "k"] (spT_isTold A) := by
  obtain ⟨fd, F, b⟩ := T.f_T_is_told
  refine ⟨fd, b, F.ok sc_T_is_told (fun vs H Q E h => ?_) (fun cdv AA outer s H vs Q E hr h => ?_)⟩
  · obtain ⟨a, l, wt, kk, t, rfl, _⟩ := h
    rfl
  · obtain ⟨a, l, wt, kk, t, rfl, x, k⟩ := h
    refine ⟨_, pss_one (ps_ret (pe_chain op_le op_le pe_int (pv 1) (pe_callB (call_lenK (K := K) rfl) (by rfl) T.z_len PySem.boot_len (pa_cons (pe_fldK (K := K) rfl (pv 0) rfl) pa_nil)))), ?_⟩
    refine ⟨_, rfl, _, _, rfl, rfl, _, rfl, ?_⟩
    refine ite2 (fun e => ?_) (fun e => ?_)
    · refine ⟨_, rfl, qT_replies T x ⟨l, _, rfl, .inl (SqL.of x.ls), _, _, rfl, rfl, ?_⟩⟩
      have e1 : 1 ≤ kk := by have := of_decide_eq_true e; omega
      have : t.isTold kk = decide ((kk : Int) ≤ ((t.rs.map vN).length : Nat)) := by
        rw [List.length_map]
        unfold MT.isTold
        rw [decide_eq_true e1, Bool.true_and]
        exact decide_eq_decide.mpr (by omega)
      rw [this] at k
      exact k
    · have e1 : ¬ 1 ≤ kk := fun z => e (decide_eq_true (by omega))
      have : t.isTold kk = false := by
        unfold MT.isTold
        rw [decide_eq_false e1, Bool.false_and]
      rw [this] at k
      exact k
noncomputable def spT_isLast (A : Ad) : Sp := fun vs H Q _ => ∃ (a l : Addr) (wt kk : Nat) (t : MT), vs = [.ref a, vN kk] ∧ TAt A H a l wt t ∧ Q (.bl (decide (kk = t.rs.length))) H
theorem ok_T_is_last (T : Txt K mg A) : ∃ fd, Binds K fd ["self", "k"] [] ∧ FnOk P w K mg base CX0 1 A.T_is_last fd ["self", "k"] (spT_isLast A) := by
  obtain ⟨fd, F, b⟩ := T.f_T_is_last
  refine ⟨fd, b, F.ok sc_T_is_last (fun vs H Q E h => ?_) (fun cdv AA outer s H vs Q E hr h => ?_)⟩
  · obtain ⟨a, l, wt, kk, t, rfl, _⟩ := h
    rfl
  · obtain ⟨a, l, wt, kk, t, rfl, x, k⟩ := h
    refine ⟨_, pss_one (ps_ret (pe_cmpR op_eq (pv 1) (pe_callB (call_lenK (K := K) rfl) (by rfl) T.z_len PySem.boot_len (pa_cons (pe_fldK (K := K) rfl (pv 0) rfl) pa_nil)) (nomark _))), ?_⟩
    refine ⟨_, rfl, _, rfl, qT_replies T x ⟨l, _, rfl, .inl (SqL.of x.ls), rfl, ?_⟩⟩
    have : decide (kk = t.rs.length) = decide (vN kk = V.int (((t.rs.map vN).length : Nat) : Int)) := by
      rw [List.length_map]
      exact decide_eq_decide.mpr (by simp only [vN, V.int.injEq]; omega)
    rw [this] at k
    exact k
theorem at_rs {rs : List Nat} {kk : Nat} (h1 : 1 ≤ kk) (h2 : kk ≤ rs.length) : atI (rs.map vN) ((kk : Int) - 1) = some (vN (rs.getD (kk - 1) 0)) := by
  refine at_of (j := kk - 1) (by omega) ?_
  have h : kk - 1 < rs.length := by omega
  rw [List.getElem?_map, List.getElem?_eq_getElem h, List.getD_eq_getElem?_getD, List.getElem?_eq_getElem h]
  rfl
noncomputable def spT_isAns (A : Ad) : Sp := fun vs H Q _ => ∃ (a l : Addr) (wt kk : Nat) (t : MT), vs = [.ref a, vN kk] ∧ TAt A H a l wt t ∧ t.isTold kk = true ∧ Q (.bl (t.isAns kk)) H
theorem ok_T_is_answered (T : Txt K mg A) : ∃ fd, Binds K fd ["self", "k"] [] ∧ FnOk P w K mg base CX0 1 A.T_is_answered fd ["self", "k"] (spT_isAns A) := by
  obtain ⟨fd, F, b⟩ := T.f_T_is_answered
  refine ⟨fd, b, F.ok sc_T_is_answered (fun vs H Q E h => ?_) (fun cdv AA outer s H vs Q E hr h => ?_)⟩
  · obtain ⟨a, l, wt, kk, t, rfl, _⟩ := h
    rfl
  · obtain ⟨a, l, wt, kk, t, rfl, x, hk, k⟩ := h
    have hk' : 1 ≤ kk ∧ kk ≤ t.rs.length := by simpa [MT.isTold] using hk
    refine ⟨_, pss_one (ps_ret (pe_cmpR op_ne (pe_ix (ix_listK (K := K) rfl) (pe_fldK (K := K) rfl (pv 0) rfl) (pe_op op_sub (pv 1) pe_int) (fun _ _ => rfl)) (pe_glob (v := .int (0)) (by rfl) T.g_UNANSWERED ⟨_, rfl⟩) (nomark _))), ?_⟩
    refine ⟨_, rfl, qT_replies T x ⟨_, rfl, _, _, rfl, rfl, l, _, _, _, rfl, rfl, SqL.of x.ls, at_rs hk'.1 hk'.2, rfl, ?_⟩⟩
    have : t.isAns kk = !decide (vN (t.rs.getD (kk - 1) 0) = V.int 0) := by
      unfold MT.isAns
      congr 1
      exact decide_eq_decide.mpr (by simp only [vN, V.int.injEq]; omega)
    rw [this] at k
    exact k
theorem inV_rs (rs : List Nat) : inV (.int 0) (rs.map vN) = rs.contains 0 := by
  induction rs with
  | nil => rfl
  | cons r rs ih =>
    show (((r : Int) == 0) || inV (.int 0) (rs.map vN)) = _
    rw [ih, List.contains_cons]
    congr 1
    by_cases h : r = 0
    · subst h; rfl
    · rw [beq_eq_false_iff_ne.mpr (by omega), beq_eq_false_iff_ne.mpr (Ne.symm h)]
theorem flat_rs (rs : List Nat) : (rs.map vN).all flatV = true := by
  induction rs with
  | nil => rfl
  | cons r rs ih =>
    show (true && (rs.map vN).all flatV) = true
    rw [ih]
    rfl
noncomputable def spT_ans (A : Ad) : Sp := fun vs H Q _ => ∃ (a l : Addr) (wt : Nat) (t : MT), vs = [.ref a] ∧ TAt A H a l wt t ∧ Q (.bl t.ans) H
theorem ok_T_all_answered (T : Txt K mg A) : ∃ fd, Binds K fd ["self"] [] ∧ FnOk P w K mg base CX0 1 A.T_all_answered fd ["self"] (spT_ans A) := by
  obtain ⟨fd, F, b⟩ := T.f_T_all_answered
  refine ⟨fd, b, F.ok sc_T_all_answered (fun vs H Q E h => ?_) (fun cdv AA outer s H vs Q E hr h => ?_)⟩
  · obtain ⟨a, l, wt, t, rfl, _⟩ := h
    rfl
  · obtain ⟨a, l, wt, t, rfl, x, k⟩ := h
    refine ⟨_, pss_one (ps_ret (pe_cmpR op_notIn_seq (pe_glob (v := .int (0)) (by rfl) T.g_UNANSWERED ⟨_, rfl⟩) (pe_fldK (K := K) rfl (pv 0) rfl) (by with_unfolding_all rfl))), ?_⟩
    refine ⟨_, rfl, qT_replies T x ⟨l, _, rfl, .inl (SqL.of x.ls), rfl, flat_rs _, ?_⟩⟩
    show Q (.bl (!inV (.int 0) (t.rs.map vN))) H
    rw [inV_rs]
    exact k
noncomputable def spT_over (A : Ad) : Sp := fun vs H Q _ => ∃ (a l : Addr) (wt now : Nat) (t : MT), vs = [.ref a, vN now] ∧ TAt A H a l wt t ∧ t.rs ≠ [] ∧ Q (.bl (t.over wt now)) H
theorem ok_T_last_over (T : Txt K mg A) : ∃ fd, Binds K fd ["self", "now"] [] ∧ FnOk P w K mg base CX0 1 A.T_last_over fd ["self", "now"] (spT_over A) := by
  obtain ⟨fd, F, b⟩ := T.f_T_last_over
  refine ⟨fd, b, F.ok sc_T_last_over (fun vs H Q E h => ?_) (fun cdv AA outer s H vs Q E hr h => ?_)⟩
  · obtain ⟨a, l, wt, now, t, rfl, _⟩ := h
    rfl
  · obtain ⟨a, l, wt, now, t, rfl, x, hn, k⟩ := h
    obtain ⟨pre, r, er⟩ : ∃ pre r, t.rs = pre ++ [r] := ⟨t.rs.dropLast, t.rs.getLast hn, (List.dropLast_concat_getLast hn).symm⟩
    have eo : t.over wt now = if r = 0 then decide (t.last + wt ≤ now) else decide (r = 1) := by
      unfold MT.over
      rw [er, List.getLast?_append]
      rfl
    have ea : atI (t.rs.map vN) (-1) = some (vN r) := by
      rw [er, List.map_append]
      exact atI_last _ _
    refine ⟨_, pss_cons (ps_set (i := 2) sc_T_last_over.nd rfl (Or.inl rfl) (pe_ix (ix_listK (K := K) rfl) (pe_fldK (K := K) rfl (pv 0) rfl) (pe_un un_neg pe_int) (fun _ _ => rfl))) (pss_cons (ps_if (pt_cmpR op_eq (pv 2) (pe_glob (v := .int (0)) (by rfl) T.g_UNANSWERED ⟨_, rfl⟩) (nomark _)) (pss_one (ps_ret (pe_cmpR op_ge (pe_op op_sub (pv 1) (pe_fldK (K := K) rfl (pv 0) rfl)) (pe_fldK (K := K) rfl (pv 0) rfl) (nomark _)))) pss_nil) (pss_one (ps_ret (pe_cmpR op_eq (pv 2) (pe_glob (v := .int (1)) (by rfl) T.g_ILL ⟨_, rfl⟩) (nomark _))))), ?_⟩
    refine ⟨_, rfl, qT_replies T x ⟨_, rfl, l, _, _, _, rfl, rfl, SqL.of x.ls, ea, ?_⟩⟩
    refine ⟨_, rfl, rfl, _, rfl, ?_⟩
    refine ite2 (fun e => ?_) (fun e => ?_)
    · have e' : r = 0 := by
        have e := of_decide_eq_true e
        simp only [vN, V.int.injEq] at e
        omega
      refine ⟨_, rfl, _, rfl, qT_last T x ⟨_, _, rfl, rfl, _, rfl, qT_wait T x ⟨_, _, rfl, rfl, ?_⟩⟩⟩
      rw [eo, if_pos e'] at k
      have : decide (t.last + wt ≤ now) = decide ((wt : Int) ≤ (now : Int) - (t.last : Int)) := decide_eq_decide.mpr (by omega)
      rw [this] at k
      exact k
    · have e' : ¬ r = 0 := fun z => e (decide_eq_true (by subst z; rfl))
      refine ⟨_, rfl, rfl, ?_⟩
      rw [eo, if_neg e'] at k
      have : decide (r = 1) = decide (vN r = V.int 1) := decide_eq_decide.mpr (by simp only [vN, V.int.injEq]; omega)
      rw [this] at k
      exact k
noncomputable def spT_may (A : Ad) : Sp := fun vs H Q _ => ∃ (a l : Addr) (wt now : Nat) (t : MT), vs = [.ref a, vN now] ∧ TAt A H a l wt t ∧ Q (.bl (t.may wt now)) H
theorem ok_T_may_tell (T : Txt K mg A) : ∃ fd, Binds K fd ["self", "now"] [] ∧ FnOk P w K mg base CX0 2 A.T_may_tell fd ["self", "now"] (spT_may A) := by
  obtain ⟨fd, F, b⟩ := T.f_T_may_tell
  obtain ⟨_, b_T_last_over, G_T_last_over⟩ := ok_T_last_over (P := P) (w := w) (base := base) T
  refine ⟨fd, b, F.ok sc_T_may_tell (fun vs H Q E h => ?_) (fun cdv AA outer s H vs Q E hr h => ?_)⟩
  · obtain ⟨a, l, wt, now, t, rfl, _⟩ := h
    rfl
  · obtain ⟨a, l, wt, now, t, rfl, x, k⟩ := h
    refine ⟨_, pss_one (ps_ret (pe_or (pe_cmpR op_eq (pe_callB (call_lenK (K := K) rfl) (by rfl) T.z_len PySem.boot_len (pa_cons (pe_fldK (K := K) rfl (pv 0) rfl) pa_nil)) pe_int (nomark _)) (pe_one (pe_meth (pv 0) T.clT T.m_T_last_over G_T_last_over (hr.mono (by decide)) b_T_last_over .nil pass0 (pa_cons (pv 1) pa_nil))))), ?_⟩
    refine ⟨_, rfl, qT_replies T x ⟨l, _, rfl, .inl (SqL.of x.ls), rfl, _, rfl, ?_⟩⟩
    refine ite2 (fun e => ?_) (fun e => ?_)
    · have e' : t.rs.length = 0 := by
        have e := of_decide_eq_true e
        rw [List.length_map] at e
        simp only [V.int.injEq] at e
        omega
      unfold MT.may at k
      rw [decide_eq_true e', Bool.true_or] at k
      exact k
    · have e' : ¬ t.rs.length = 0 := fun z => e (decide_eq_true (by rw [List.length_map, z]; rfl))
      refine ⟨_, rfl, cT x (fun _ _ _ _ => rfl) ⟨_, rfl, ?_⟩⟩
      refine ⟨a, l, wt, now, t, rfl, x, fun z => e' (by rw [z]; rfl), ?_⟩
      unfold MT.may at k
      rw [decide_eq_false e', Bool.false_or] at k
      exact k
end
end LD
namespace LD
open PySem L2
section
variable {P : Program} {w : World} {K : PySem.W.Frag} {mg : Str → Option Value} {base : Heap} {A : Ad}
noncomputable def spS_init (A : Ad) : Sp := fun vs H Q _ => ∃ (p dx : Addr) (n wt tr kd : Nat), vs = [.ref p, vN n, vN wt, vN tr, vN kd] ∧ H p = some (.ins A.CS dx []) ∧
  ∀ (a l : Bool → Addr) (H' : Hp), SAt A H' p a l ⟨n, wt, tr, kd, ⟨[], 0, false⟩, ⟨[], 0, false⟩⟩ → (∀ c, H (a c) = none) → (∀ c, H (l c) = none) → a false ≠ a true → l false ≠ l true → (∀ b o, H b = some o → b ≠ p → H' b = some o) → Q .non H'
theorem ok_S_init (T : Txt K mg A) : ∃ fd, Binds K fd ["self", "needs", "wait", "tries", "kind"] [] ∧ FnOk P w K mg base CX0 3 A.S_init fd ["self", "needs", "wait", "tries", "kind"] (spS_init A) := by
  obtain ⟨fd, F, b⟩ := T.f_S_init
  obtain ⟨_, b_T_init, G_T_init⟩ := ok_T_init (P := P) (w := w) (base := base) T
  refine ⟨fd, b, F.ok sc_S_init (fun vs H Q E h => ?_) (fun cdv AA outer s H vs Q E hr h => ?_)⟩
  · obtain ⟨p, dx, n, wt, tr, kd, rfl, _⟩ := h
    rfl
  · obtain ⟨p, dx, n, wt, tr, kd, rfl, hp, k⟩ := h
    refine ⟨_, pss_cons (ps_fldK (K := K) rfl (pv 0) (pv 1) rfl) (pss_cons (ps_fldK (K := K) rfl (pv 0) (pv 2) rfl) (pss_cons (ps_fldK (K := K) rfl (pv 0) (pv 3) rfl) (pss_cons (ps_fldK (K := K) rfl (pv 0) (pv 4) rfl) (pss_cons (ps_fldK (K := K) rfl (pv 0) (pe_make T.mkT G_T_init (hr.mono (by decide)) (by rfl) T.gT b_T_init .nil pass0 (pa_cons (pv 2) pa_nil)) rfl) (pss_one (ps_fldK (K := K) rfl (pv 0) (pe_make T.mkT G_T_init (hr.mono (by decide)) (by rfl) T.gT b_T_init .nil pass0 (pa_cons (pv 2) pa_nil)) rfl)))))), ?_⟩
    refine ⟨_, rfl, _, rfl, p, A.CS, dx, _, rfl, hp, T.clS, T.nS_needs, by decide, ?_⟩
    refine ⟨_, rfl, _, rfl, p, A.CS, dx, _, rfl, upd_same, T.clS, T.nS_wait, (by show 1 < 1000; decide), ?_⟩
    refine ⟨_, rfl, _, rfl, p, A.CS, dx, _, rfl, upd_same, T.clS, T.nS_tries, (by show 2 < 1000; decide), ?_⟩
    refine ⟨_, rfl, _, rfl, p, A.CS, dx, _, rfl, upd_same, T.clS, T.nS_kind, (by show 3 < 1000; decide), ?_⟩
    rw [upd_upd, upd_upd, upd_upd]
    have hH : ∀ {o : HO}, ∀ b u, H b = some u → b ≠ p → upd H p o b = some u := fun b u e nb => by rw [upd_ne nb]; exact e
    have hN : ∀ {o : HO} {b : Addr}, upd H p o b = none → H b = none ∧ b ≠ p := fun {o b} e => by
      by_cases q : b = p
      · rw [q, upd_same] at e; cases e
      · rw [upd_ne q] at e; exact ⟨e, q⟩
    refine ⟨_, rfl, ?_⟩
    intro x0 d0 n0 m0 e0
    refine ⟨x0, d0, wt, rfl, upd_same, fun l0 H1 t0 f0 k1 => ⟨rfl, ?_⟩⟩
    have s1 : Same _ H1 := Same.made n0 m0 k1
    have hp1 := s1 _ _ upd_same
    refine ⟨_, rfl, p, A.CS, dx, _, rfl, hp1, T.clS, T.nS_doing, (by show 4 < 1000; decide), ?_⟩
    refine ⟨_, rfl, ?_⟩
    intro x1 d1 n1 m1 e1
    refine ⟨x1, d1, wt, rfl, upd_same, fun l1 H2 t1 f1 k2 => ⟨rfl, ?_⟩⟩
    have s2 : Same _ H2 := Same.made n1 m1 k2
    refine ⟨_, rfl, p, A.CS, dx, _, rfl, s2 _ _ upd_same, T.clS, T.nS_undoing, (by show 5 < 1000; decide), ?_⟩
    -- who differs from whom
    have p0 : x0 ≠ p := (hN n0).2
    have e10 := n1
    have q1 : x1 ≠ p ∧ H1 x1 = none := by
      by_cases q : x1 = p
      · rw [q, upd_same] at n1; cases n1
      · rw [upd_ne q] at n1; exact ⟨q, n1⟩
    have ql0 : l0 ≠ p ∧ H l0 = none ∧ l0 ≠ x0 := by
      by_cases q : l0 = x0
      · rw [q, upd_same] at f0; cases f0
      · rw [upd_ne q] at f0
        by_cases q2 : l0 = d0
        · rw [q2, upd_same] at f0; cases f0
        · rw [upd_ne q2] at f0
          exact ⟨(hN f0).2, (hN f0).1, q⟩
    obtain ⟨⟨dx0, t0a⟩, t0b⟩ := id t0
    obtain ⟨⟨dx1, t1a⟩, t1b⟩ := id t1
    have x01 : x0 ≠ x1 := ne_of_none t0a q1.2
    have ql1 : l1 ≠ p ∧ H1 l1 = none ∧ l1 ≠ x1 := by
      by_cases q : l1 = x1
      · rw [q, upd_same] at f1; cases f1
      · rw [upd_ne q] at f1
        by_cases q2 : l1 = d1
        · rw [q2, upd_same] at f1; cases f1
        · rw [upd_ne q2] at f1
          by_cases q3 : l1 = p
          · rw [q3, upd_same] at f1; cases f1
          · rw [upd_ne q3] at f1
            exact ⟨q3, f1, q⟩
    have l01 : l0 ≠ l1 := ne_of_none t0b ql1.2.1
    have sH1 : ∀ b o, H b = some o → b ≠ p → H1 b = some o := fun b o e nb => s1 b o (hH b o e nb)
    have sH2 : ∀ b o, H1 b = some o → b ≠ p → H2 b = some o := fun b o e nb => s2 b o (by rw [upd_ne nb]; exact e)
    have fr : ∀ {b : Addr}, H1 b = none → b ≠ p → H b = none := fun {b} e nb => by
      cases q : H b with
      | none => rfl
      | some o => rw [sH1 b o q nb] at e; cases e
    refine k (fun c => if c then x1 else x0) (fun c => if c then l1 else l0) _ ⟨⟨dx, upd_same⟩, fun c => ?_⟩ (fun c => ?_) (fun c => ?_) x01 l01 fun b o e hb => ?_
    · cases c with
      | false => exact ⟨⟨dx0, by show upd _ p _ x0 = _; rw [upd_ne p0]; exact sH2 _ _ t0a p0⟩, by show upd _ p _ l0 = _; rw [upd_ne ql0.1]; exact sH2 _ _ t0b ql0.1⟩
      | true => exact ⟨⟨dx1, by show upd _ p _ x1 = _; rw [upd_ne q1.1]; exact t1a⟩, by show upd _ p _ l1 = _; rw [upd_ne ql1.1]; exact t1b⟩
    · cases c with
      | false => exact (hN n0).1
      | true => exact fr q1.2 q1.1
    · cases c with
      | false => exact ql0.2.1
      | true => exact fr ql1.2.1 ql1.1
    · rw [upd_ne hb]
      exact sH2 _ _ (sH1 _ _ e hb) hb
noncomputable def spS1 (A : Ad) (f : MS → V) : Sp := fun vs H Q _ => ∃ (z : Addr) (a l : Bool → Addr) (m : MS), vs = [.ref z] ∧ SAt A H z a l m ∧ Q (f m) H
theorem ok_S_was_done (T : Txt K mg A) : ∃ fd, Binds K fd ["self"] [] ∧ FnOk P w K mg base CX0 1 A.S_was_done fd ["self"] (spS1 A fun m => .bl m.d.well) := by
  obtain ⟨fd, F, b⟩ := T.f_S_was_done
  refine ⟨fd, b, F.ok sc_S_was_done (fun vs H Q E h => ?_) (fun cdv AA outer s H vs Q E hr h => ?_)⟩
  · obtain ⟨z, a, l, m, rfl, _⟩ := h
    rfl
  · obtain ⟨z, a, l, m, rfl, x, k⟩ := h
    refine ⟨_, pss_one (ps_ret (pe_fldK (K := K) rfl (pe_fldK (K := K) rfl (pv 0) rfl) rfl)), ?_⟩
    exact ⟨_, rfl, qS_doing T x (qT_well T (x.tl false) k)⟩
theorem ok_S_was_undone (T : Txt K mg A) : ∃ fd, Binds K fd ["self"] [] ∧ FnOk P w K mg base CX0 1 A.S_was_undone fd ["self"] (spS1 A fun m => .bl m.u.well) := by
  obtain ⟨fd, F, b⟩ := T.f_S_was_undone
  refine ⟨fd, b, F.ok sc_S_was_undone (fun vs H Q E h => ?_) (fun cdv AA outer s H vs Q E hr h => ?_)⟩
  · obtain ⟨z, a, l, m, rfl, _⟩ := h
    rfl
  · obtain ⟨z, a, l, m, rfl, x, k⟩ := h
    refine ⟨_, pss_one (ps_ret (pe_fldK (K := K) rfl (pe_fldK (K := K) rfl (pv 0) rfl) rfl)), ?_⟩
    exact ⟨_, rfl, qS_undoing T x (qT_well T (x.tl true) k)⟩
theorem ok_S_is_clean (T : Txt K mg A) : ∃ fd, Binds K fd ["self"] [] ∧ FnOk P w K mg base CX0 2 A.S_is_clean fd ["self"] (spS1 A fun m => .bl m.clean) := by
  obtain ⟨fd, F, b⟩ := T.f_S_is_clean
  obtain ⟨_, b_S_was_undone, G_S_was_undone⟩ := ok_S_was_undone (P := P) (w := w) (base := base) T
  obtain ⟨_, b_T_all_answered, G_T_all_answered⟩ := ok_T_all_answered (P := P) (w := w) (base := base) T
  obtain ⟨_, b_S_was_done, G_S_was_done⟩ := ok_S_was_done (P := P) (w := w) (base := base) T
  refine ⟨fd, b, F.ok sc_S_is_clean (fun vs H Q E h => ?_) (fun cdv AA outer s H vs Q E hr h => ?_)⟩
  · obtain ⟨z, a, l, m, rfl, _⟩ := h
    rfl
  · obtain ⟨z, a, l, m, rfl, x, k⟩ := h
    refine ⟨_, pss_cons (ps_if (pt_val (pe_meth0 (pv 0) T.clS T.m_S_was_undone G_S_was_undone (hr.mono (by decide)) b_S_was_undone .nil pass0)) (pss_one (ps_ret pe_bl)) pss_nil) (pss_one (ps_ret (pe_and (pe_not (pe_meth0 (pv 0) T.clS T.m_S_was_done G_S_was_done (hr.mono (by decide)) b_S_was_done .nil pass0)) (pe_one (pe_meth0 (pe_fldK (K := K) rfl (pv 0) rfl) T.clT T.m_T_all_answered G_T_all_answered (hr.mono (by decide)) b_T_all_answered .nil pass0))))), ?_⟩
    refine ⟨_, rfl, cS x (fun _ _ _ _ _ _ => rfl) ⟨z, a, l, m, rfl, x, _, rfl, ?_⟩⟩
    have k : Q (.bl m.clean) H := k
    unfold MS.clean at k
    refine ite2 (fun e => ?_) (fun e => ?_)
    · rw [e, Bool.true_or] at k
      exact k
    · rw [Bool.eq_false_iff.mpr e, Bool.false_or] at k
      refine ⟨_, rfl, cS x (fun _ _ _ _ _ _ => rfl) ⟨z, a, l, m, rfl, x, _, rfl, _, rfl, ?_⟩⟩
      refine ite2 (fun e2 => ?_) (fun e2 => ?_)
      · rw [e2, Bool.true_and] at k
        exact ⟨_, rfl, qS_doing T x (cT (x.tl false) (fun _ _ _ _ => rfl) ⟨_, _, _, _, rfl, x.tl false, k⟩)⟩
      · rw [Bool.eq_false_iff.mpr e2, Bool.false_and] at k
        exact k
theorem dec2 {a b : Nat} : decide (vN a = V.int (b : Int)) = decide (a = b) := decide_eq_decide.mpr (by simp only [vN, V.int.injEq]; omega)
theorem dec_vN {a b : Nat} : decide (vN a = vN b) = decide (a = b) := decide_eq_decide.mpr (by simp only [vN, V.int.injEq]; omega)
theorem vN_eq {a b : Nat} : vN a = vN b ↔ a = b := by simp only [vN, V.int.injEq]; omega
noncomputable def spS_given (A : Ad) : Sp := fun vs H Q _ => ∃ (z : Addr) (a l : Bool → Addr) (m : MS) (now : Nat), vs = [.ref z, vN now] ∧ SAt A H z a l m ∧ 1 ≤ m.tries ∧ Q (.bl (m.givenUp now)) H
theorem ok_S_is_given_up (T : Txt K mg A) : ∃ fd, Binds K fd ["self", "now"] [] ∧ FnOk P w K mg base CX0 2 A.S_is_given_up fd ["self", "now"] (spS_given A) := by
  obtain ⟨fd, F, b⟩ := T.f_S_is_given_up
  obtain ⟨_, b_S_was_done, G_S_was_done⟩ := ok_S_was_done (P := P) (w := w) (base := base) T
  obtain ⟨_, b_T_last_over, G_T_last_over⟩ := ok_T_last_over (P := P) (w := w) (base := base) T
  obtain ⟨_, b_T_how_many, G_T_how_many⟩ := ok_T_how_many (P := P) (w := w) (base := base) T
  obtain ⟨_, b_T_all_answered, G_T_all_answered⟩ := ok_T_all_answered (P := P) (w := w) (base := base) T
  refine ⟨fd, b, F.ok sc_S_is_given_up (fun vs H Q E h => ?_) (fun cdv AA outer s H vs Q E hr h => ?_)⟩
  · obtain ⟨z, a, l, m, now, rfl, _⟩ := h
    rfl
  · obtain ⟨z, a, l, m, now, rfl, x, ht, k⟩ := h
    refine ⟨_, pss_cons (ps_if (PW.pt (pw_or (pt_val (pe_meth0 (pv 0) T.clS T.m_S_was_done G_S_was_done (hr.mono (by decide)) b_S_was_done .nil pass0)) (pw_or1 (pt_cmpR op_eq (pe_fldK (K := K) rfl (pv 0) rfl) (pe_glob (v := .int (2)) (by rfl) T.g_BEHIND ⟨_, rfl⟩) (nomark _))))) (pss_one (ps_ret pe_bl)) pss_nil) (pss_cons (ps_if (PW.pt (pw_or (pt_cmpR op_ne (pe_meth0 (pe_fldK (K := K) rfl (pv 0) rfl) T.clT T.m_T_how_many G_T_how_many (hr.mono (by decide)) b_T_how_many .nil pass0) (pe_fldK (K := K) rfl (pv 0) rfl) (nomark _)) (pw_or1 (pt_not (pt_val (pe_meth (pe_fldK (K := K) rfl (pv 0) rfl) T.clT T.m_T_last_over G_T_last_over (hr.mono (by decide)) b_T_last_over .nil pass0 (pa_cons (pv 1) pa_nil))))))) (pss_one (ps_ret pe_bl)) pss_nil) (pss_one (ps_ret (pe_or (pe_cmpR op_ne (pe_fldK (K := K) rfl (pv 0) rfl) (pe_glob (v := .int (1)) (by rfl) T.g_POINT ⟨_, rfl⟩) (nomark _)) (pe_one (pe_meth0 (pe_fldK (K := K) rfl (pv 0) rfl) T.clT T.m_T_all_answered G_T_all_answered (hr.mono (by decide)) b_T_all_answered .nil pass0)))))), ?_⟩
    unfold MS.givenUp at k
    -- was_done() or kind == BEHIND
    refine ⟨_, rfl, cS x (fun _ _ _ _ _ _ => rfl) ⟨z, a, l, m, rfl, x, _, rfl, ?_⟩⟩
    refine ite2 (fun e => ?_) (fun e => ?_)
    · rw [e, Bool.not_true, Bool.false_and, Bool.false_and, Bool.false_and, Bool.false_and] at k
      exact k
    · rw [Bool.eq_false_iff.mpr e, Bool.not_false, Bool.true_and] at k
      refine ⟨_, rfl, qS_kind T x ⟨rfl, _, rfl, ?_⟩⟩
      refine ite2 (fun e2 => ?_) (fun e2 => ?_)
      · have e2 : m.kind = 2 := vN_eq.mp (of_decide_eq_true e2)
        rw [decide_eq_true e2, Bool.not_true, Bool.false_and, Bool.false_and, Bool.false_and] at k
        exact k
      · have e2 : ¬ m.kind = 2 := fun q => e2 (decide_eq_true (by rw [q]; rfl))
        rw [decide_eq_false e2, Bool.not_false, Bool.true_and] at k
        refine ⟨_, rfl, qS_doing T x (cT (x.tl false) (fun _ _ _ _ => rfl) ⟨_, _, _, _, rfl, x.tl false, _, rfl, qS_tries T x ⟨rfl, _, rfl, ?_⟩⟩)⟩
        refine ite2 (fun e3 => ?_) (fun e3 => ?_)
        · rw [dec_vN] at e3
          have e3 : ¬ m.d.rs.length = m.tries := by simpa [MS.tl] using e3
          rw [decide_eq_false e3, Bool.false_and, Bool.false_and] at k
          exact k
        · rw [dec_vN] at e3
          have e3 : m.d.rs.length = m.tries := by simpa [MS.tl] using e3
          rw [decide_eq_true e3, Bool.true_and] at k
          have hne : m.d.rs ≠ [] := fun q => by rw [q] at e3; simp at e3; omega
          refine ⟨_, rfl, qS_doing T x (cT (x.tl false) (fun _ _ _ _ => rfl) ⟨_, rfl, _, _, _, _, _, rfl, x.tl false, hne, _, rfl, ?_⟩)⟩
          refine ite2 (fun e4 => ?_) (fun e4 => ?_)
          · have e4 : m.d.over m.wait now = false := by simpa [MS.tl] using e4
            rw [e4, Bool.false_and] at k
            exact k
          · have e4 : m.d.over m.wait now = true := by simpa [MS.tl] using e4
            rw [e4, Bool.true_and] at k
            refine ⟨_, rfl, qS_kind T x ⟨rfl, _, rfl, ?_⟩⟩
            refine ite2 (fun e5 => ?_) (fun e5 => ?_)
            · have e5 : ¬ m.kind = 1 := fun q => by rw [q] at e5; exact absurd e5 (by decide)
              rw [decide_eq_false e5, Bool.not_false, Bool.true_or] at k
              exact k
            · have e5 : m.kind = 1 := by
                have e5 : (!decide (vN m.kind = vN 1)) ≠ true := e5
                rw [dec_vN] at e5
                simpa using e5
              rw [decide_eq_true e5, Bool.not_true, Bool.false_or] at k
              exact ⟨_, rfl, qS_doing T x (cT (x.tl false) (fun _ _ _ _ => rfl) ⟨_, _, _, _, rfl, x.tl false, k⟩)⟩
theorem ok_S_is_point_told (T : Txt K mg A) : ∃ fd, Binds K fd ["self"] [] ∧ FnOk P w K mg base CX0 2 A.S_is_point_told fd ["self"] (spS1 A fun m => .bl m.pointTold) := by
  obtain ⟨fd, F, b⟩ := T.f_S_is_point_told
  obtain ⟨_, b_T_how_many, G_T_how_many⟩ := ok_T_how_many (P := P) (w := w) (base := base) T
  refine ⟨fd, b, F.ok sc_S_is_point_told (fun vs H Q E h => ?_) (fun cdv AA outer s H vs Q E hr h => ?_)⟩
  · obtain ⟨z, a, l, m, rfl, _⟩ := h
    rfl
  · obtain ⟨z, a, l, m, rfl, x, k⟩ := h
    refine ⟨_, pss_one (ps_ret (pe_and (pe_cmpR op_eq (pe_fldK (K := K) rfl (pv 0) rfl) (pe_glob (v := .int (1)) (by rfl) T.g_POINT ⟨_, rfl⟩) (nomark _)) (pe_one (pe_cmpR op_gt (pe_meth0 (pe_fldK (K := K) rfl (pv 0) rfl) T.clT T.m_T_how_many G_T_how_many (hr.mono (by decide)) b_T_how_many .nil pass0) pe_int (nomark _))))), ?_⟩
    have k : Q (.bl m.pointTold) H := k
    unfold MS.pointTold at k
    refine ⟨_, rfl, qS_kind T x ⟨rfl, _, rfl, ?_⟩⟩
    refine ite2 (fun e => ?_) (fun e => ?_)
    · have e : m.kind = 1 := vN_eq.mp (of_decide_eq_true e)
      rw [decide_eq_true e, Bool.true_and] at k
      refine ⟨_, rfl, qS_doing T x (cT (x.tl false) (fun _ _ _ _ => rfl) ⟨_, _, _, _, rfl, x.tl false, _, _, rfl, rfl, ?_⟩)⟩
      have : decide (0 < m.d.rs.length) = decide ((0 : Int) < ((m.tl false).rs.length : Nat)) := decide_eq_decide.mpr (by show _ ↔ (0 : Int) < ((m.d.rs.length : Nat) : Int); omega)
      rw [this] at k
      exact k
    · have e : ¬ m.kind = 1 := fun q => e (decide_eq_true (by rw [q]; rfl))
      rw [decide_eq_false e, Bool.false_and] at k
      exact k
theorem ok_S_standing (T : Txt K mg A) : ∃ fd, Binds K fd ["self"] [] ∧ FnOk P w K mg base CX0 2 A.S_standing fd ["self"] (spS1 A fun m => vN m.standing) := by
  obtain ⟨fd, F, b⟩ := T.f_S_standing
  obtain ⟨_, b_S_was_undone, G_S_was_undone⟩ := ok_S_was_undone (P := P) (w := w) (base := base) T
  obtain ⟨_, b_S_was_done, G_S_was_done⟩ := ok_S_was_done (P := P) (w := w) (base := base) T
  refine ⟨fd, b, F.ok sc_S_standing (fun vs H Q E h => ?_) (fun cdv AA outer s H vs Q E hr h => ?_)⟩
  · obtain ⟨z, a, l, m, rfl, _⟩ := h
    rfl
  · obtain ⟨z, a, l, m, rfl, x, k⟩ := h
    refine ⟨_, pss_cons (ps_if (pt_val (pe_meth0 (pv 0) T.clS T.m_S_was_undone G_S_was_undone (hr.mono (by decide)) b_S_was_undone .nil pass0)) (pss_one (ps_ret (pe_glob (v := .int (2)) (by rfl) T.g_WAS_UNDONE ⟨_, rfl⟩))) pss_nil) (pss_one (ps_ret (pe_ifExp (pt_val (pe_meth0 (pv 0) T.clS T.m_S_was_done G_S_was_done (hr.mono (by decide)) b_S_was_done .nil pass0)) (pe_glob (v := .int (1)) (by rfl) T.g_WAS_DONE ⟨_, rfl⟩) (pe_glob (v := .int (0)) (by rfl) T.g_NEITHER ⟨_, rfl⟩)))), ?_⟩
    have k : Q (vN m.standing) H := k
    unfold MS.standing at k
    refine ⟨_, rfl, cS x (fun _ _ _ _ _ _ => rfl) ⟨z, a, l, m, rfl, x, _, rfl, ?_⟩⟩
    refine ite2 (fun e => ?_) (fun e => ?_)
    · rw [if_pos e] at k
      exact k
    · rw [if_neg e] at k
      refine ⟨_, rfl, cS x (fun _ _ _ _ _ _ => rfl) ⟨z, a, l, m, rfl, x, _, rfl, ?_⟩⟩
      refine ite2 (fun e2 => ?_) (fun e2 => ?_)
      · rw [if_pos e2] at k
        exact k
      · rw [if_neg e2] at k
        exact k
noncomputable def spS_tl (A : Ad) : Sp := fun vs H Q _ => ∃ (z : Addr) (a l : Bool → Addr) (m : MS) (what : Nat), vs = [.ref z, vN what] ∧ SAt A H z a l m ∧ Q (.ref (a (!decide (what = 0)))) H
theorem ok_S_tellings (T : Txt K mg A) : ∃ fd, Binds K fd ["self", "what"] [] ∧ FnOk P w K mg base CX0 1 A.S_tellings fd ["self", "what"] (spS_tl A) := by
  obtain ⟨fd, F, b⟩ := T.f_S_tellings
  refine ⟨fd, b, F.ok sc_S_tellings (fun vs H Q E h => ?_) (fun cdv AA outer s H vs Q E hr h => ?_)⟩
  · obtain ⟨z, a, l, m, what, rfl, _⟩ := h
    rfl
  · obtain ⟨z, a, l, m, what, rfl, x, k⟩ := h
    refine ⟨_, pss_one (ps_ret (pe_ifExp (pt_cmpR op_eq (pv 1) (pe_glob (v := .int (0)) (by rfl) T.g_TO_DO ⟨_, rfl⟩) (nomark _)) (pe_fldK (K := K) rfl (pv 0) rfl) (pe_fldK (K := K) rfl (pv 0) rfl))), ?_⟩
    refine ⟨_, rfl, rfl, _, rfl, ?_⟩
    refine ite2 (fun e => ?_) (fun e => ?_)
    · have e : what = 0 := vN_eq.mp (of_decide_eq_true e)
      rw [decide_eq_true e] at k
      exact ⟨_, rfl, qS_doing T x k⟩
    · have e : ¬ what = 0 := fun q => e (decide_eq_true (by rw [q]; rfl))
      rw [decide_eq_false e] at k
      exact ⟨_, rfl, qS_undoing T x k⟩
noncomputable def spS_oldDo (A : Ad) : Sp := fun vs H Q _ => ∃ (z : Addr) (a l : Bool → Addr) (m : MS) (kk ok : Nat), vs = [.ref z, vN kk, vN ok] ∧ SAt A H z a l m ∧ m.d.isTold kk = true ∧ Q (.bl (m.oldDo kk ok)) H
theorem ok_S_is_nothing_new_of_doing (T : Txt K mg A) : ∃ fd, Binds K fd ["self", "k", "ok"] [] ∧ FnOk P w K mg base CX0 2 A.S_is_nothing_new_of_doing fd ["self", "k", "ok"] (spS_oldDo A) := by
  obtain ⟨fd, F, b⟩ := T.f_S_is_nothing_new_of_doing
  obtain ⟨_, b_T_is_answered, G_T_is_answered⟩ := ok_T_is_answered (P := P) (w := w) (base := base) T
  obtain ⟨_, b_S_was_done, G_S_was_done⟩ := ok_S_was_done (P := P) (w := w) (base := base) T
  obtain ⟨_, b_T_is_last, G_T_is_last⟩ := ok_T_is_last (P := P) (w := w) (base := base) T
  refine ⟨fd, b, F.ok sc_S_is_nothing_new_of_doing (fun vs H Q E h => ?_) (fun cdv AA outer s H vs Q E hr h => ?_)⟩
  · obtain ⟨z, a, l, m, kk, ok, rfl, _⟩ := h
    rfl
  · obtain ⟨z, a, l, m, kk, ok, rfl, x, hk, k⟩ := h
    refine ⟨_, pss_cons (ps_if (pt_cmpR op_le (pv 1) (pe_glob (v := .int (8)) (by rfl) T.g_MOST_KEPT ⟨_, rfl⟩) (nomark _)) (pss_one (ps_ret (pe_meth (pe_fldK (K := K) rfl (pv 0) rfl) T.clT T.m_T_is_answered G_T_is_answered (hr.mono (by decide)) b_T_is_answered .nil pass0 (pa_cons (pv 1) pa_nil)))) pss_nil) (pss_cons (ps_if (pt_val (pe_meth0 (pv 0) T.clS T.m_S_was_done G_S_was_done (hr.mono (by decide)) b_S_was_done .nil pass0)) (pss_one (ps_ret pe_bl)) pss_nil) (pss_cons (ps_if (pt_val (pe_meth (pe_fldK (K := K) rfl (pv 0) rfl) T.clT T.m_T_is_last G_T_is_last (hr.mono (by decide)) b_T_is_last .nil pass0 (pa_cons (pv 1) pa_nil))) (pss_one (ps_ret (pe_meth (pe_fldK (K := K) rfl (pv 0) rfl) T.clT T.m_T_is_answered G_T_is_answered (hr.mono (by decide)) b_T_is_answered .nil pass0 (pa_cons (pv 1) pa_nil)))) pss_nil) (pss_one (ps_ret (pe_cmpR op_eq (pv 2) pe_int (nomark _)))))), ?_⟩
    unfold MS.oldDo at k
    refine ⟨_, rfl, _, _, rfl, rfl, _, rfl, ?_⟩
    refine ite2 (fun e => ?_) (fun e => ?_)
    · have e : kk ≤ 8 := by have := of_decide_eq_true e; omega
      rw [if_pos e] at k
      exact ⟨_, rfl, qS_doing T x (cT (x.tl false) (fun _ _ _ _ => rfl) ⟨_, rfl, _, _, _, _, _, rfl, x.tl false, hk, k⟩)⟩
    · have e : ¬ kk ≤ 8 := fun q => e (decide_eq_true (by omega))
      rw [if_neg e] at k
      refine ⟨_, rfl, cS x (fun _ _ _ _ _ _ => rfl) ⟨z, a, l, m, rfl, x, _, rfl, ?_⟩⟩
      refine ite2 (fun e2 => ?_) (fun e2 => ?_)
      · rw [if_pos e2] at k
        exact k
      · rw [if_neg e2] at k
        refine ⟨_, rfl, qS_doing T x (cT (x.tl false) (fun _ _ _ _ => rfl) ⟨_, rfl, _, _, _, _, _, rfl, x.tl false, _, rfl, ?_⟩)⟩
        refine ite2 (fun e3 => ?_) (fun e3 => ?_)
        · rw [if_pos (show kk = m.d.rs.length from of_decide_eq_true e3)] at k
          exact ⟨_, rfl, qS_doing T x (cT (x.tl false) (fun _ _ _ _ => rfl) ⟨_, rfl, _, _, _, _, _, rfl, x.tl false, hk, k⟩)⟩
        · rw [if_neg (show ¬ kk = m.d.rs.length from fun q => e3 (decide_eq_true q))] at k
          refine ⟨_, rfl, rfl, ?_⟩
          rw [← dec_vN] at k
          exact k
noncomputable def spS_old (A : Ad) : Sp := fun vs H Q _ => ∃ (z : Addr) (a l : Bool → Addr) (m : MS) (what kk ok : Nat), vs = [.ref z, vN what, vN kk, vN ok] ∧ SAt A H z a l m ∧ (m.tl (!decide (what = 0))).isTold kk = true ∧ Q (.bl (m.old (!decide (what = 0)) kk ok)) H
theorem ok_S_is_nothing_new (T : Txt K mg A) : ∃ fd, Binds K fd ["self", "what", "k", "ok"] [] ∧ FnOk P w K mg base CX0 3 A.S_is_nothing_new fd ["self", "what", "k", "ok"] (spS_old A) := by
  obtain ⟨fd, F, b⟩ := T.f_S_is_nothing_new
  obtain ⟨_, b_S_was_undone, G_S_was_undone⟩ := ok_S_was_undone (P := P) (w := w) (base := base) T
  obtain ⟨_, b_S_is_nothing_new_of_doing, G_S_is_nothing_new_of_doing⟩ := ok_S_is_nothing_new_of_doing (P := P) (w := w) (base := base) T
  obtain ⟨_, b_T_is_answered, G_T_is_answered⟩ := ok_T_is_answered (P := P) (w := w) (base := base) T
  obtain ⟨_, b_T_is_last, G_T_is_last⟩ := ok_T_is_last (P := P) (w := w) (base := base) T
  refine ⟨fd, b, F.ok sc_S_is_nothing_new (fun vs H Q E h => ?_) (fun cdv AA outer s H vs Q E hr h => ?_)⟩
  · obtain ⟨z, a, l, m, what, kk, ok, rfl, _⟩ := h
    rfl
  · obtain ⟨z, a, l, m, what, kk, ok, rfl, x, hk, k⟩ := h
    refine ⟨_, pss_cons (ps_if (pt_val (pe_meth0 (pv 0) T.clS T.m_S_was_undone G_S_was_undone (hr.mono (by decide)) b_S_was_undone .nil pass0)) (pss_one (ps_ret pe_bl)) pss_nil) (pss_cons (ps_if (pt_cmpR op_eq (pv 1) (pe_glob (v := .int (0)) (by rfl) T.g_TO_DO ⟨_, rfl⟩) (nomark _)) (pss_one (ps_ret (pe_meth (pv 0) T.clS T.m_S_is_nothing_new_of_doing G_S_is_nothing_new_of_doing (hr.mono (by decide)) b_S_is_nothing_new_of_doing .nil pass0 (pa_cons (pv 2) (pa_cons (pv 3) pa_nil))))) pss_nil) (pss_one (ps_ret (pe_and (pe_cmpR op_eq (pv 3) pe_int (nomark _)) (pe_one (pe_or (pe_not (pe_meth (pe_fldK (K := K) rfl (pv 0) rfl) T.clT T.m_T_is_last G_T_is_last (hr.mono (by decide)) b_T_is_last .nil pass0 (pa_cons (pv 2) pa_nil))) (pe_one (pe_meth (pe_fldK (K := K) rfl (pv 0) rfl) T.clT T.m_T_is_answered G_T_is_answered (hr.mono (by decide)) b_T_is_answered .nil pass0 (pa_cons (pv 2) pa_nil))))))))), ?_⟩
    unfold MS.old at k
    refine ⟨_, rfl, cS x (fun _ _ _ _ _ _ => rfl) ⟨z, a, l, m, rfl, x, _, rfl, ?_⟩⟩
    refine ite2 (fun e => ?_) (fun e => ?_)
    · rw [if_pos e] at k
      exact k
    · rw [if_neg e] at k
      refine ⟨_, rfl, rfl, _, rfl, ?_⟩
      refine ite2 (fun e2 => ?_) (fun e2 => ?_)
      · have e2 : what = 0 := vN_eq.mp (of_decide_eq_true e2)
        rw [decide_eq_true e2] at k hk
        exact ⟨_, rfl, cS x (fun _ _ _ _ _ _ => rfl) ⟨_, rfl, _, rfl, z, a, l, m, kk, ok, rfl, x, hk, k⟩⟩
      · have e2 : ¬ what = 0 := fun q => e2 (decide_eq_true (by rw [q]; rfl))
        rw [decide_eq_false e2] at k hk
        refine ⟨_, rfl, rfl, _, rfl, ?_⟩
        have hk : m.u.isTold kk = true := hk
        have k : Q (.bl (decide (ok = 0) && (!decide (kk = m.u.rs.length) || m.u.isAns kk))) H := k
        refine ite2 (fun e3 => ?_) (fun e3 => ?_)
        · have e3 : ok = 0 := vN_eq.mp (of_decide_eq_true e3)
          rw [decide_eq_true e3, Bool.true_and] at k
          refine ⟨_, rfl, qS_undoing T x (cT (x.tl true) (fun _ _ _ _ => rfl) ⟨_, rfl, _, _, _, _, _, rfl, x.tl true, _, rfl, _, rfl, ?_⟩)⟩
          refine ite2 (fun e4 => ?_) (fun e4 => ?_)
          · have e4 : (!decide (kk = m.u.rs.length)) = true := e4
            rw [e4, Bool.true_or] at k
            exact k
          · have e4 : (!decide (kk = m.u.rs.length)) = false := Bool.eq_false_iff.mpr e4
            rw [e4, Bool.false_or] at k
            exact ⟨_, rfl, qS_undoing T x (cT (x.tl true) (fun _ _ _ _ => rfl) ⟨_, rfl, _, _, _, _, _, rfl, x.tl true, hk, k⟩)⟩
        · have e3 : ¬ ok = 0 := fun q => e3 (decide_eq_true (by rw [q]; rfl))
          rw [decide_eq_false e3, Bool.false_and] at k
          exact k
end
end LD
namespace LD
open PySem L2
/-! ### who differs from whom -/
noncomputable def nf : HO → Nat
  | .ins _ _ fs => fs.length
  | _ => 0
theorem ne_nf {H : Hp} {a b : Addr} {o u : HO} (h : H a = some o) (h' : H b = some u) (d : nf o ≠ nf u) : a ≠ b := ne_of h h' fun e => d (by rw [e])
theorem seq_mid {t u : TS} {D : Ends} {σ : St} {H : Hp} (R : St → Hp → Prop) (h2 : ∀ σ' H', R σ' H' → u D σ' H') (h1 : ∀ N : St → Hp → Prop, (∀ σ' H', R σ' H' → N σ' H') → t { D with nx := N } σ H) : tSeq t u D σ H := h1 (u D) h2
theorem seq_gen {t u : TS} {D : Ends} {σ : St} {H : Hp} (h : ∀ N : St → Hp → Prop, (∀ σ' H', u D σ' H' → N σ' H') → t { D with nx := N } σ H) : tSeq t u D σ H := h (u D) fun _ _ h => h
theorem if_gen {c : TT} {t u : TS} {D : Ends} {σ : St} {H : Hp} (h : ∀ A B : Hp → Prop, (∀ H1, t D σ H1 → A H1) → (∀ H1, u D σ H1 → B H1) → c σ H fun b H1 => if b = true then A H1 else B H1) : tIfS c t u D σ H := h _ _ (fun _ h => h) fun _ h => h
/-- but for the business's own object all is as it was -/
noncomputable def Kp (p : Addr) (H H' : Hp) : Prop := ∀ b o, H b = some o → b ≠ p → H' b = some o
theorem Kp.of {p : Addr} {H H' : Hp} (s : Same H H') : Kp p H H' := fun b o e _ => s b o e
theorem Kp.trans {p : Addr} {H H1 H2 : Hp} (a : Kp p H H1) (b : Kp p H1 H2) : Kp p H H2 := fun c o e n => b c o (a c o e n) n
/-- but for the business's own objects all is as it was -/
noncomputable def Fr (p : Addr) (y : Lay) (n : Nat) (H H' : Hp) : Prop := ∀ b o, H b = some o → b ≠ p → (∀ i c, i < n → b ≠ y.a i c ∧ b ≠ y.l i c) → H' b = some o
theorem Fr.of {p : Addr} {y : Lay} {n : Nat} {H H' : Hp} (s : Same H H') : Fr p y n H H' := fun b o e _ _ => s b o e
theorem Fr.kp {p : Addr} {y : Lay} {n : Nat} {H H' : Hp} (s : Kp p H H') : Fr p y n H H' := fun b o e h _ => s b o e h
theorem Fr.trans {p : Addr} {y : Lay} {n : Nat} {H H1 H2 : Hp} (a : Fr p y n H H1) (b : Fr p y n H1 H2) : Fr p y n H H2 := fun c o e h1 h2 => b c o (a c o e h1 h2) h1 h2
theorem Ls.keep {A : Ad} {H H' : Hp} {p L : Addr} {y : Lay} {ms : List MS} {o : HO} (x : Ls A H L y ms) (hp : H p = some o) (hn : nf o = 3 ∨ nf o = 1) (k : Kp p H H') : Ls A H' L y ms := by
  refine ⟨k _ _ x.ls (ne_nf x.ls hp (by show 0 ≠ _; omega)), fun i m e => ?_, x.ia, x.il, x.nl⟩
  obtain ⟨⟨dx, h1⟩, h2⟩ := x.st i m e
  refine ⟨⟨dx, k _ _ h1 (ne_nf h1 hp (by show 6 ≠ _; omega))⟩, fun c => ?_⟩
  obtain ⟨⟨dy, h3⟩, h4⟩ := h2 c
  exact ⟨⟨dy, k _ _ h3 (ne_nf h3 hp (by show 4 ≠ _; omega))⟩, k _ _ h4 (ne_nf h4 hp (by show 0 ≠ _; omega))⟩
theorem setTl_tl (m : MS) (c e : Bool) (t : MT) : (m.setTl c t).tl e = if e = c then t else m.tl e := by
  cases c <;> cases e <;> rfl
theorem setTl_rule (m : MS) (c : Bool) (t : MT) : (m.setTl c t).needs = m.needs ∧ (m.setTl c t).wait = m.wait ∧ (m.setTl c t).tries = m.tries ∧ (m.setTl c t).kind = m.kind := by
  cases c <;> exact ⟨rfl, rfl, rfl, rfl⟩
theorem Ls.put {A : Ad} {H H' : Hp} {L : Addr} {y : Lay} {ms : List MS} {i : Nat} {m : MS} {c : Bool} {t' : MT} (x : Ls A H L y ms) (e : ms[i]? = some m) (ht : TAt A H' (y.a i c) (y.l i c) m.wait t')
    (k : ∀ b o, H b = some o → b ≠ y.a i c → b ≠ y.l i c → H' b = some o) : Ls A H' L y (ms.set i (m.setTl c t')) := by
  have hi : i < ms.length := lt_of_some e
  obtain ⟨_, hT⟩ := x.st i m e
  obtain ⟨⟨da, ha⟩, hl⟩ := hT c
  refine ⟨?_, fun j n hn => ?_, ?_, ?_, ?_⟩
  · rw [List.length_set]
    exact k _ _ x.ls (ne_of x.ls ha (by intro z; cases z)) fun z => x.nl i c hi z.symm
  · have hj : j < ms.length := by have := lt_of_some hn; rwa [List.length_set] at this
    obtain ⟨⟨ds, hs⟩, hTj⟩ := x.st j _ (List.getElem?_eq_getElem hj)
    have hs' := k _ _ hs (ne_nf hs ha (by show 6 ≠ 4; decide)) (ne_of hs hl (by intro z; cases z))
    have hT' : ∀ d, ¬ (j = i ∧ d = c) → TAt A H' (y.a j d) (y.l j d) (ms[j]).wait ((ms[j]).tl d) := fun d hd => by
      obtain ⟨⟨dd, h1⟩, h2⟩ := hTj d
      exact ⟨⟨dd, k _ _ h1 (fun z => hd (x.ia j d i c hj hi z)) (ne_of h1 hl (by intro z; cases z))⟩, k _ _ h2 (ne_of h2 ha (by intro z; cases z)) fun z => hd (x.il j d i c hj hi z)⟩
    rw [List.getElem?_set] at hn
    by_cases hij : i = j
    · subst hij
      rw [if_pos rfl, if_pos hi] at hn
      cases hn
      have em : ms[i] = m := Option.some.inj ((List.getElem?_eq_getElem hj).symm.trans e)
      rw [em] at hs' hT'
      obtain ⟨r1, r2, r3, r4⟩ := setTl_rule m c t'
      refine ⟨⟨ds, by rw [r1, r2, r3, r4]; exact hs'⟩, fun d => ?_⟩
      rw [setTl_tl, r2]
      by_cases hd : d = c
      · rw [if_pos hd, hd]; exact ht
      · rw [if_neg hd]; exact hT' d fun z => hd z.2
    · rw [if_neg hij, List.getElem?_eq_getElem hj] at hn
      cases hn
      exact ⟨⟨ds, hs'⟩, fun d => hT' d fun z => hij z.1.symm⟩
  · rw [List.length_set]; exact x.ia
  · rw [List.length_set]; exact x.il
  · rw [List.length_set]; exact x.nl
theorem BAt.put {A : Ad} {H H' : Hp} {p L : Addr} {y : Lay} {b : MB} {i : Nat} {m : MS} {c : Bool} {t' : MT} (x : BAt A H p L y b) (e : b.steps[i]? = some m) (ht : TAt A H' (y.a i c) (y.l i c) m.wait t')
    (k : ∀ b o, H b = some o → b ≠ y.a i c → b ≠ y.l i c → H' b = some o) : BAt A H' p L y (b.put i (m.setTl c t')) := by
  obtain ⟨⟨dx, h⟩, h2⟩ := x
  obtain ⟨_, hT⟩ := h2.st i m e
  obtain ⟨⟨da, ha⟩, hl⟩ := hT c
  exact ⟨⟨dx, k _ _ h (ne_nf h ha (by show 3 ≠ 4; decide)) (ne_of h hl (by intro z; cases z))⟩, h2.put e ht k⟩
theorem Fr.put {p : Addr} {y : Lay} {n i : Nat} {c : Bool} {H H' : Hp} (hi : i < n) (k : ∀ b o, H b = some o → b ≠ y.a i c → b ≠ y.l i c → H' b = some o) : Fr p y n H H' := fun b o e _ h => k b o e (h i c hi).1 (h i c hi).2
/-- the business's own numbers change -/
theorem BAt.set {A : Ad} {H : Hp} {p L dx : Addr} {y : Lay} {b : MB} {now way : Nat} (x : BAt A H p L y b) (h : H p = some (.ins A.CB dx (bf L b.now b.way))) : BAt A (upd H p (.ins A.CB dx (bf L now way))) p L y ⟨b.steps, now, way⟩ :=
  ⟨⟨dx, upd_same⟩, x.ls.keep h (.inl rfl) fun c o e n => by rw [upd_ne n]; exact e⟩
structure HB (b : MB) : Prop where
  le : b.steps.length ≤ 32
  tri : ∀ m ∈ b.steps, 1 ≤ m.tries
  sz : ∀ m ∈ b.steps, m.d.rs.length < sizeLine ∧ m.u.rs.length < sizeLine
theorem HB.lt {b : MB} (h : HB b) : b.steps.length < sizeLine := by have := h.le; rw [sizeLine_eq]; omega
noncomputable def optV : Option Nat → V
  | none => .non
  | some i => vN i
section
variable {P : Program} {w : World} {K : PySem.W.Frag} {mg : Str → Option Value} {base : Heap} {A : Ad}
noncomputable def spB_init (A : Ad) : Sp := fun vs H Q _ => ∃ (p dx L : Addr), vs = [.ref p, .ref L] ∧ H p = some (.ins A.CB dx []) ∧
  ∀ H', H' p = some (.ins A.CB dx (bf L 0 0)) → Kp p H H' → Q .non H'
theorem ok_B_init (T : Txt K mg A) : ∃ fd, Binds K fd ["self", "steps"] [] ∧ FnOk P w K mg base CX0 1 A.B_init fd ["self", "steps"] (spB_init A) := by
  obtain ⟨fd, F, b⟩ := T.f_B_init
  refine ⟨fd, b, F.ok sc_B_init (fun vs H Q E h => ?_) (fun cdv AA outer s H vs Q E hr h => ?_)⟩
  · obtain ⟨p, dx, L, rfl, _⟩ := h
    rfl
  · obtain ⟨p, dx, L, rfl, hp, k⟩ := h
    refine ⟨_, pss_cons (ps_fldK (K := K) rfl (pv 0) (pv 1) rfl) (pss_cons (ps_fldK (K := K) rfl (pv 0) pe_int rfl) (pss_one (ps_fldK (K := K) rfl (pv 0) (pe_glob (v := .int (0)) (by rfl) T.g_ON ⟨_, rfl⟩) rfl))), ?_⟩
    refine ⟨_, rfl, _, rfl, p, A.CB, dx, _, rfl, hp, T.clB, T.nB_steps, by decide, ?_⟩
    refine ⟨_, rfl, p, A.CB, dx, _, rfl, upd_same, T.clB, T.nB_now, (by show 1 < 1000; decide), ?_⟩
    refine ⟨_, rfl, p, A.CB, dx, _, rfl, upd_same, T.clB, T.nB_way, (by show 2 < 1000; decide), ?_⟩
    refine k _ upd_same fun b o e hb => ?_
    rw [upd_ne hb, upd_ne hb, upd_ne hb]
    exact e
noncomputable def spB (A : Ad) (f : MB → V) : Sp := fun vs H Q _ => ∃ (p L : Addr) (y : Lay) (b : MB), vs = [.ref p] ∧ BAt A H p L y b ∧ HB b ∧ ∀ H', Same H H' → Q (f b) H'
theorem bits_step {ms : List MS} {i : Nat} {m : MS} (e : ms[i]? = some m) (hw : m.d.well = true) : Builtin.bitOr ((bitsTo ms i : Nat) : Int) (1 * 2 ^ ((i : Int)).toNat) = ((bitsTo ms (i + 1) : Nat) : Int) := by
  rw [shl1, bOr]
  show _ = (((match ms[i]? with
    | some m => if m.d.well then bitsTo ms i ||| 2 ^ i else bitsTo ms i
    | none => bitsTo ms i) : Nat) : Int)
  rw [e]
  simp only [hw, if_true]
theorem bits_stay {ms : List MS} {i : Nat} {m : MS} (e : ms[i]? = some m) (hw : ¬ m.d.well = true) : bitsTo ms (i + 1) = bitsTo ms i := by
  show (match ms[i]? with
    | some m => if m.d.well then bitsTo ms i ||| 2 ^ i else bitsTo ms i
    | none => bitsTo ms i) = _
  rw [e]
  simp only [hw]
  rfl
theorem ok_B_done_bits (T : Txt K mg A) : ∃ fd, Binds K fd ["self"] [] ∧ FnOk P w K mg base CX0 2 A.B_done_bits fd ["self"] (spB A fun b => vN (bitsTo b.steps b.steps.length)) := by
  obtain ⟨fd, F, b⟩ := T.f_B_done_bits
  obtain ⟨_, b_S_was_done, G_S_was_done⟩ := ok_S_was_done (P := P) (w := w) (base := base) T
  refine ⟨fd, b, F.ok sc_B_done_bits (fun vs H Q E h => ?_) (fun cdv AA outer s H vs Q E hr h => ?_)⟩
  · obtain ⟨p, L, y, b, rfl, _⟩ := h
    rfl
  · obtain ⟨p, L, y, b, rfl, x, hb, k⟩ := h
    refine ⟨_, pss_cons (ps_set (i := 1) sc_B_done_bits.nd rfl (Or.inl rfl) pe_int) (pss_cons (ps_for PassesOwn.never rfl (pi_enumK (K := K) rfl (by rfl) T.z_enumerate (pa_cons (pe_fldK (K := K) rfl (pv 0) rfl) pa_nil)) (pg_tupK (K := K) (n := 2) rfl rfl (pgs_cons (pg_name (i := 2) sc_B_done_bits.nd rfl (Or.inl rfl)) (pgs_cons (pg_name (i := 3) sc_B_done_bits.nd rfl (Or.inl rfl)) pgs_nil))) (pss_one (ps_if (pt_val (pe_meth0 (pv 3) T.clS T.m_S_was_done G_S_was_done (hr.mono (by decide)) b_S_was_done .nil pass0)) (pss_one (ps_aug (i := 1) sc_B_done_bits.nd rfl (Or.inl rfl) (pe_op op_shl pe_int (pv 2)) iop_or)) pss_nil))) (pss_one (ps_ret (pv 1)))), ?_⟩
    refine ⟨_, rfl, qB_steps T x ⟨L, _, rfl, SqL.of x.ls.ls, for_enum (xs := refs y b.steps.length) (fun i σ H' => (∃ v2 v3, σ = [some (.ref p), some (vN (bitsTo b.steps i)), v2, v3]) ∧ Same H H')
      ⟨⟨none, none, rfl⟩, Same.refl _⟩ (fun i σ H' _ h => SqL.of (h.2 _ _ x.ls.ls)) ?_ ?_⟩⟩
    · rintro i v σ H' t hv ⟨⟨v2, v3, rfl⟩, s⟩ ht
      obtain ⟨hi, rfl⟩ := refs_at hv
      have em : b.steps[i]? = some b.steps[i] := List.getElem?_eq_getElem hi
      have s2 := s.trans (Same.upd (o := .tup [.int (i : Nat), .ref (y.s i)]) ht)
      have sx := (x.ls.st i _ em).mono s2
      refine ⟨_, rfl, cS sx (fun _ _ _ _ _ _ => rfl) ⟨_, _, _, _, rfl, sx, _, rfl, ?_⟩⟩
      refine ite2 (fun e => ?_) (fun e => ?_)
      · have hle := hb.le
        refine ⟨_, rfl, _, rfl, _, _, rfl, rfl, ⟨by omega, by omega, by decide⟩, _, _, rfl, rfl, ?_⟩
        refine ⟨⟨some (vN i), some (.ref (y.s i)), ?_⟩, s2⟩
        show [some (V.ref p), some (V.int (Builtin.bitOr ((bitsTo b.steps i : Nat) : Int) (1 * 2 ^ ((i : Int)).toNat))), some (V.int i), some (V.ref (y.s i))] = _
        rw [bits_step em e]
        rfl
      · refine ⟨⟨some (vN i), some (.ref (y.s i)), ?_⟩, s2⟩
        rw [bits_stay em e]
        rfl
    · rintro σ H' ⟨⟨v2, v3, rfl⟩, s⟩
      rw [refs_len]
      exact ⟨_, rfl, k _ s⟩
theorem ok_B_place_to_do (T : Txt K mg A) : ∃ fd, Binds K fd ["self"] [] ∧ FnOk P w K mg base CX0 3 A.B_place_to_do fd ["self"] (spB A fun b => optV b.placeD) := by
  obtain ⟨fd, F, b⟩ := T.f_B_place_to_do
  obtain ⟨_, b_B_done_bits, G_B_done_bits⟩ := ok_B_done_bits (P := P) (w := w) (base := base) T
  obtain ⟨_, b_S_was_done, G_S_was_done⟩ := ok_S_was_done (P := P) (w := w) (base := base) T
  obtain ⟨_, b_T_may_tell, G_T_may_tell⟩ := ok_T_may_tell (P := P) (w := w) (base := base) T
  refine ⟨fd, b, F.ok sc_B_place_to_do (fun vs H Q E h => ?_) (fun cdv AA outer s H vs Q E hr h => ?_)⟩
  · obtain ⟨p, L, y, b, rfl, _⟩ := h
    rfl
  · obtain ⟨p, L, y, b, rfl, x, hb, k⟩ := h
    refine ⟨_, pss_cons (ps_set (i := 1) sc_B_place_to_do.nd rfl (Or.inl rfl) (pe_meth0 (pv 0) T.clB T.m_B_done_bits G_B_done_bits (hr.mono (by decide)) b_B_done_bits .nil pass0)) (pss_cons (ps_for PassesOwn.never rfl (pi_enumK (K := K) rfl (by rfl) T.z_enumerate (pa_cons (pe_fldK (K := K) rfl (pv 0) rfl) pa_nil)) (pg_tupK (K := K) (n := 2) rfl rfl (pgs_cons (pg_name (i := 2) sc_B_place_to_do.nd rfl (Or.inl rfl)) (pgs_cons (pg_name (i := 3) sc_B_place_to_do.nd rfl (Or.inl rfl)) pgs_nil))) (pss_cons (ps_if (PW.pt (pw_or (pt_val (pe_meth0 (pv 3) T.clS T.m_S_was_done G_S_was_done (hr.mono (by decide)) b_S_was_done .nil pass0)) (pw_or1 (pt_cmpR op_ne (pe_op op_and (pe_fldK (K := K) rfl (pv 3) rfl) (pv 1)) (pe_fldK (K := K) rfl (pv 3) rfl) (nomark _))))) (pss_one ps_continue) pss_nil) (pss_one (ps_if (pt_val (pe_meth (pe_fldK (K := K) rfl (pv 3) rfl) T.clT T.m_T_may_tell G_T_may_tell (hr.mono (by decide)) b_T_may_tell .nil pass0 (pa_cons (pe_fldK (K := K) rfl (pv 0) rfl) pa_nil))) (pss_one (ps_ret (pv 2))) pss_nil)))) (pss_one (ps_ret pe_non))), ?_⟩
    refine ⟨_, rfl, cB x (fun _ _ _ => rfl) ⟨p, L, y, b, rfl, x, hb, fun H1 s1 => ?_⟩⟩
    have x1 := x.mono s1
    refine ⟨_, rfl, qB_steps T x1 ⟨L, _, rfl, SqL.of x1.ls.ls, for_enum (xs := refs y b.steps.length) (fun i σ H' => (∃ v2 v3, σ = [some (.ref p), some (vN (bitsTo b.steps b.steps.length)), v2, v3]) ∧ Same H H' ∧ ∀ j, j < i → b.mayD j = false)
      ⟨⟨none, none, rfl⟩, s1, fun j hj => absurd hj (Nat.not_lt_zero j)⟩ (fun i σ H' _ h => SqL.of (h.2.1 _ _ x.ls.ls)) ?_ ?_⟩⟩
    · rintro i v σ H' t hv ⟨⟨v2, v3, rfl⟩, s, hn⟩ ht
      obtain ⟨hi, rfl⟩ := refs_at hv
      have em : b.steps[i]? = some b.steps[i] := List.getElem?_eq_getElem hi
      have s2 := s.trans (Same.upd (o := .tup [.int (i : Nat), .ref (y.s i)]) ht)
      have sx := (x.ls.st i _ em).mono s2
      have xx := x.mono s2
      generalize b.steps[i] = m at em sx
      have hmay : b.mayD i = (!m.d.well && decide (m.needs &&& bitsTo b.steps b.steps.length = m.needs) && m.d.may m.wait b.now) := by
        unfold MB.mayD
        rw [em]
      have go : b.mayD i = false → ∀ j, j < i + 1 → b.mayD j = false := fun h0 j hj => by
        by_cases e : j = i
        · rw [e]; exact h0
        · exact hn j (by omega)
      refine ⟨_, rfl, cS sx (fun _ _ _ _ _ _ => rfl) ⟨_, _, _, _, rfl, sx, _, rfl, ?_⟩⟩
      refine ite2 (fun e => ?_) (fun e => ?_)
      · refine iteT ⟨⟨_, _, rfl⟩, s2, go ?_⟩
        rw [hmay, e]
        rfl
      · refine ⟨_, rfl, qS_needs T sx ⟨_, rfl, _, _, rfl, rfl, _, rfl, qS_needs T sx ⟨rfl, _, rfl, ?_⟩⟩⟩
        have ea : (!decide (V.int (Builtin.bitAnd (m.needs : Int) ((bitsTo b.steps b.steps.length : Nat) : Int)) = vN m.needs)) = !decide (m.needs &&& bitsTo b.steps b.steps.length = m.needs) := by
          rw [bAnd]
          congr 1
          exact decide_eq_decide.mpr vN_eq
        show if (!decide (V.int (Builtin.bitAnd (m.needs : Int) ((bitsTo b.steps b.steps.length : Nat) : Int)) = vN m.needs)) = true then _ else _
        rw [ea]
        refine ite2 (fun e2 => ?_) (fun e2 => ?_)
        · refine ⟨⟨_, _, rfl⟩, s2, go ?_⟩
          rw [hmay]
          have e2 : decide (m.needs &&& bitsTo b.steps b.steps.length = m.needs) = false := by simpa using e2
          rw [e2, Bool.and_false, Bool.false_and]
        · refine ⟨_, rfl, qS_doing T sx (cT (sx.tl false) (fun _ _ _ _ => rfl) ⟨_, rfl, qB_now T xx ⟨_, _, _, _, _, rfl, sx.tl false, _, rfl, ?_⟩⟩)⟩
          have e2 : decide (m.needs &&& bitsTo b.steps b.steps.length = m.needs) = true := by simpa using e2
          rw [Bool.eq_false_iff.mpr e, e2, Bool.not_false, Bool.true_and, Bool.true_and] at hmay
          refine ite2 (fun e3 => ?_) (fun e3 => ?_)
          · have hp : b.placeD = some i := find_range hi (hmay.trans e3) hn
            have kk : Q (optV b.placeD) _ := k _ s2
            rw [hp] at kk
            exact ⟨_, rfl, kk⟩
          · exact ⟨⟨_, _, rfl⟩, s2, go (hmay.trans (Bool.eq_false_iff.mpr e3))⟩
    · rintro σ H' ⟨⟨v2, v3, rfl⟩, s, hn⟩
      rw [refs_len] at hn
      have hp : b.placeD = none := find_range_none hn
      have kk : Q (optV b.placeD) _ := k _ s
      rw [hp] at kk
      exact kk
theorem held_bit (a q : Nat) : decide (V.int (Builtin.bitAnd ((a : Int) / 2 ^ ((q : Int)).toNat) 1) = V.int 0) = !a.testBit q := by
  rw [shrN, bit01]
  cases a.testBit q <;> rfl
theorem ok_B_place_to_undo (T : Txt K mg A) : ∃ fd, Binds K fd ["self"] [] ∧ FnOk P w K mg base CX0 3 A.B_place_to_undo fd ["self"] (spB A fun b => optV b.placeU) := by
  obtain ⟨fd, F, b⟩ := T.f_B_place_to_undo
  obtain ⟨_, b_S_is_clean, G_S_is_clean⟩ := ok_S_is_clean (P := P) (w := w) (base := base) T
  obtain ⟨_, b_T_may_tell, G_T_may_tell⟩ := ok_T_may_tell (P := P) (w := w) (base := base) T
  refine ⟨fd, b, F.ok sc_B_place_to_undo (fun vs H Q E h => ?_) (fun cdv AA outer s H vs Q E hr h => ?_)⟩
  · obtain ⟨p, L, y, b, rfl, _⟩ := h
    rfl
  · obtain ⟨p, L, y, b, rfl, x, hb, k⟩ := h
    have hle := hb.le
    have hrg : RgC (((refs y b.steps.length).length : Int) - 1) (-1) (-1) b.steps.length := by
      rw [refs_len]
      have := RgC.neg (i := (b.steps.length : Int) - 1) (j := -1) (by omega) (by omega) (by omega) (by omega)
      have e : ((b.steps.length : Int) - 1 - (-1)).toNat = b.steps.length := by omega
      rw [e] at this
      exact this
    refine ⟨_, pss_cons (ps_set (i := 1) sc_B_place_to_undo.nd rfl (Or.inl rfl) pe_int) (pss_cons (ps_for PassesOwn.never rfl (pi_range3 (by rfl) T.z_range (pa_cons (pe_op op_sub (pe_callB (call_lenK (K := K) rfl) (by rfl) T.z_len PySem.boot_len (pa_cons (pe_fldK (K := K) rfl (pv 0) rfl) pa_nil)) pe_int) (pa_cons (pe_un un_neg pe_int) (pa_cons (pe_un un_neg pe_int) pa_nil)))) (pg_name (i := 2) sc_B_place_to_undo.nd rfl (Or.inl rfl)) (pss_cons (ps_set (i := 3) sc_B_place_to_undo.nd rfl (Or.inl rfl) (pe_ix (ix_listK (K := K) rfl) (pe_fldK (K := K) rfl (pv 0) rfl) (pv 2) (fun _ _ => rfl))) (pss_cons (ps_if (pt_val (pe_meth0 (pv 3) T.clS T.m_S_is_clean G_S_is_clean (hr.mono (by decide)) b_S_is_clean .nil pass0)) (pss_one ps_continue) pss_nil) (pss_cons (ps_if (PW.pt (pw_and (pt_cmpR op_eq (pe_op op_and (pe_op op_shr (pv 1) (pv 2)) pe_int) pe_int (nomark _)) (pw_and1 (pt_val (pe_meth (pe_fldK (K := K) rfl (pv 3) rfl) T.clT T.m_T_may_tell G_T_may_tell (hr.mono (by decide)) b_T_may_tell .nil pass0 (pa_cons (pe_fldK (K := K) rfl (pv 0) rfl) pa_nil)))))) (pss_one (ps_ret (pv 2))) pss_nil) (pss_one (ps_aug (i := 1) sc_B_place_to_undo.nd rfl (Or.inl rfl) (pe_fldK (K := K) rfl (pv 3) rfl) iop_or)))))) (pss_one (ps_ret pe_non))), ?_⟩
    refine ⟨_, rfl, qB_steps T x ⟨L, _, rfl, .inl (SqL.of x.ls.ls), _, _, rfl, rfl, _, rfl, _, rfl, _, _, _, _, rfl, hrg,
      for_rangeC (lo := ((refs y b.steps.length).length : Int) - 1) (c := -1) (fun i σ H' => (∃ v2 v3, σ = [some (.ref p), some (vN (heldL (b.steps.drop (b.steps.length - i)))), v2, v3]) ∧ Same H H' ∧ ∀ j, b.steps.length - i ≤ j → j < b.steps.length → b.mayU j = false)
      ⟨⟨none, none, by rw [Nat.sub_zero, List.drop_length]; rfl⟩, Same.refl _, fun j h1 h2 => by omega⟩ ?_ ?_⟩⟩
    · rintro i σ H' hi ⟨⟨v2, v3, rfl⟩, s, hn⟩
      obtain ⟨q, hq, e1, e2⟩ : ∃ q : Nat, q < b.steps.length ∧ b.steps.length - i = q + 1 ∧ ((refs y b.steps.length).length : Int) - 1 + (i : Nat) * (-1) = (q : Int) := ⟨b.steps.length - i - 1, by omega, by omega, by rw [refs_len]; omega⟩
      rw [e2]
      have em : b.steps[q]? = some b.steps[q] := List.getElem?_eq_getElem hq
      have sx := (x.ls.st q _ em).mono s
      have xx := x.mono s
      have hdrop : b.steps.drop q = b.steps[q] :: b.steps.drop (q + 1) := List.drop_eq_getElem_cons hq
      have e3 : b.steps.length - (i + 1) = q := by omega
      generalize b.steps[q] = m at em sx hdrop
      have hmay : b.mayU q = (!m.clean && !(heldL (b.steps.drop (q + 1))).testBit q && m.u.may m.wait b.now) := by
        unfold MB.mayU
        rw [em]
      rw [e1] at hn
      have go : b.mayU q = false → ∀ j, b.steps.length - (i + 1) ≤ j → j < b.steps.length → b.mayU j = false := fun h0 j h1 h2 => by
        by_cases e : j = q
        · rw [e]; exact h0
        · exact hn j (by omega) h2
      refine ⟨_, rfl, qB_steps T xx ⟨_, rfl, L, _, _, _, rfl, rfl, SqL.of xx.ls.ls, atI_nat (refs_get hq), ?_⟩⟩
      refine ⟨_, rfl, cS sx (fun _ _ _ _ _ _ => rfl) ⟨_, _, _, _, rfl, sx, _, rfl, ?_⟩⟩
      refine ite2 (fun e => ?_) (fun e => ?_)
      · refine ⟨⟨some (vN q), some (.ref (y.s q)), ?_⟩, s, go ?_⟩
        · rw [e1, e3, hdrop]
          have : heldL (m :: b.steps.drop (q + 1)) = heldL (b.steps.drop (q + 1)) := by
            unfold heldL
            rw [if_pos e]
            cases b.steps.drop (q + 1) <;> rfl
          rw [this]
          rfl
        · rw [hmay, e]
          rfl
      · rw [Bool.eq_false_iff.mpr e, Bool.not_false, Bool.true_and] at hmay
        have hnext : heldL (b.steps.drop (b.steps.length - (i + 1))) = heldL (b.steps.drop (q + 1)) ||| m.needs := by
          rw [e3, hdrop]
          show (if m.clean then heldL (b.steps.drop (q + 1)) else heldL (b.steps.drop (q + 1)) ||| m.needs) = _
          rw [if_neg e]
        have fin : b.mayU q = false → (∃ v2 v3, [some (V.ref p), some (V.int (Builtin.bitOr ((heldL (b.steps.drop (b.steps.length - i)) : Nat) : Int) (m.needs : Int))), some (V.int q), some (V.ref (y.s q))] = [some (V.ref p), some (vN (heldL (b.steps.drop (b.steps.length - (i + 1))))), v2, v3]) ∧ Same H H' ∧ ∀ j, b.steps.length - (i + 1) ≤ j → j < b.steps.length → b.mayU j = false := fun h0 => by
          refine ⟨⟨some (vN q), some (.ref (y.s q)), ?_⟩, s, go h0⟩
          rw [bOr, hnext, e1]
          rfl
        refine ⟨_, rfl, _, rfl, _, _, rfl, rfl, Int.natCast_nonneg q, _, _, rfl, rfl, rfl, _, rfl, ?_⟩
        show if decide (V.int (Builtin.bitAnd (((heldL (b.steps.drop (b.steps.length - i)) : Nat) : Int) / 2 ^ ((q : Int)).toNat) 1) = V.int 0) = true then _ else _
        rw [held_bit]
        refine ite2 (fun e4 => ?_) (fun e4 => ?_)
        · rw [e1] at e4
          rw [e4, Bool.true_and] at hmay
          refine ⟨_, rfl, qS_undoing T sx (cT (sx.tl true) (fun _ _ _ _ => rfl) ⟨_, rfl, qB_now T xx ⟨_, _, _, _, _, rfl, sx.tl true, _, rfl, ?_⟩⟩)⟩
          refine ite2 (fun e5 => ?_) (fun e5 => ?_)
          · have hp : b.placeU = some q := last_filter (hmay.trans e5) _ hq fun j h1 h2 => hn j (by omega) h2
            have kk : Q (optV b.placeU) _ := k _ s
            rw [hp] at kk
            exact ⟨_, rfl, kk⟩
          · exact ⟨_, rfl, _, rfl, qS_needs T sx ⟨_, _, rfl, rfl, fin (hmay.trans (Bool.eq_false_iff.mpr e5))⟩⟩
        · rw [e1] at e4
          rw [Bool.eq_false_iff.mpr e4, Bool.false_and] at hmay
          exact iteF ⟨_, rfl, _, rfl, qS_needs T sx ⟨_, _, rfl, rfl, fin hmay⟩⟩
    · rintro σ H' ⟨⟨v2, v3, rfl⟩, s, hn⟩
      have hp : b.placeU = none := last_filter_none _ fun j hj => hn j (by omega) hj
      have kk : Q (optV b.placeU) _ := k _ s
      rw [hp] at kk
      exact kk
noncomputable def spB_settle (A : Ad) : Sp := fun vs H Q _ => ∃ (p L : Addr) (y : Lay) (b : MB), vs = [.ref p] ∧ BAt A H p L y b ∧ HB b ∧ ∀ H', BAt A H' p L y b.settle → Kp p H H' → Q .non H'
theorem ok_B_settle (T : Txt K mg A) : ∃ fd, Binds K fd ["self"] [] ∧ FnOk P w K mg base CX0 3 A.B_settle fd ["self"] (spB_settle A) := by
  obtain ⟨fd, F, b⟩ := T.f_B_settle
  obtain ⟨_, b_S_is_given_up, G_S_is_given_up⟩ := ok_S_is_given_up (P := P) (w := w) (base := base) T
  obtain ⟨_, b_S_was_done, G_S_was_done⟩ := ok_S_was_done (P := P) (w := w) (base := base) T
  obtain ⟨_, b_S_is_clean, G_S_is_clean⟩ := ok_S_is_clean (P := P) (w := w) (base := base) T
  refine ⟨fd, b, F.ok sc_B_settle (fun vs H Q E h => ?_) (fun cdv AA outer s H vs Q E hr h => ?_)⟩
  · obtain ⟨p, L, y, b, rfl, _⟩ := h
    rfl
  · obtain ⟨p, L, y, b, rfl, x, hb, k⟩ := h
    refine ⟨_, pss_cons (ps_if (pt_cmpR op_eq (pe_fldK (K := K) rfl (pv 0) rfl) (pe_glob (v := .int (0)) (by rfl) T.g_ON ⟨_, rfl⟩) (nomark _)) (pss_one (ps_if (pt_val (pe_callB (cr_anyK (K := K) rfl rfl) (by rfl) T.z_any (by decide +kernel) (pa_cons (pe_lc rfl sc_B_settle.nd (pi_listK (K := K) rfl (pe_fldK (K := K) rfl (pv 0) rfl)) (blkOk_by (N := ["self", "step"]) (sc := defScope s_B_settle) (own := [("step", 1)]) (by decide +kernel)) (fun _ _ _ _ _ => (pg_name (i := 1) sc_B_settle.nd rfl (Or.inl rfl))) (fun _ _ _ _ _ => pts_nil) (fun _ _ _ _ _ => (pe_meth (pv 1) T.clS T.m_S_is_given_up G_S_is_given_up (hr.mono (by decide)) b_S_is_given_up .nil pass0 (pa_cons (pe_fldK (K := K) rfl (pv 0) rfl) pa_nil)))) pa_nil))) (pss_one (ps_fldK (K := K) rfl (pv 0) (pe_glob (v := .int (1)) (by rfl) T.g_BACK ⟨_, rfl⟩) rfl)) (pss_one (ps_if (pt_val (pe_callB (cr_allK (K := K) rfl rfl) (by rfl) T.z_all (by decide +kernel) (pa_cons (pe_lc rfl sc_B_settle.nd (pi_listK (K := K) rfl (pe_fldK (K := K) rfl (pv 0) rfl)) (blkOk_by (N := ["self", "step"]) (sc := defScope s_B_settle) (own := [("step", 1)]) (by decide +kernel)) (fun _ _ _ _ _ => (pg_name (i := 1) sc_B_settle.nd rfl (Or.inl rfl))) (fun _ _ _ _ _ => pts_nil) (fun _ _ _ _ _ => (pe_meth0 (pv 1) T.clS T.m_S_was_done G_S_was_done (hr.mono (by decide)) b_S_was_done .nil pass0))) pa_nil))) (pss_one (ps_fldK (K := K) rfl (pv 0) (pe_glob (v := .int (2)) (by rfl) T.g_DONE ⟨_, rfl⟩) rfl)) pss_nil)))) pss_nil) (pss_one (ps_if (PW.pt (pw_and (pt_cmpR op_eq (pe_fldK (K := K) rfl (pv 0) rfl) (pe_glob (v := .int (1)) (by rfl) T.g_BACK ⟨_, rfl⟩) (nomark _)) (pw_and1 (pt_val (pe_callB (cr_allK (K := K) rfl rfl) (by rfl) T.z_all (by decide +kernel) (pa_cons (pe_lc rfl sc_B_settle.nd (pi_listK (K := K) rfl (pe_fldK (K := K) rfl (pv 0) rfl)) (blkOk_by (N := ["self", "step"]) (sc := defScope s_B_settle) (own := [("step", 1)]) (by decide +kernel)) (fun _ _ _ _ _ => (pg_name (i := 1) sc_B_settle.nd rfl (Or.inl rfl))) (fun _ _ _ _ _ => pts_nil) (fun _ _ _ _ _ => (pe_meth0 (pv 1) T.clS T.m_S_is_clean G_S_is_clean (hr.mono (by decide)) b_S_is_clean .nil pass0))) pa_nil)))))) (pss_one (ps_fldK (K := K) rfl (pv 0) (pe_glob (v := .int (3)) (by rfl) T.g_UNDONE ⟨_, rfl⟩) rfl)) pss_nil)), ?_⟩
    refine seq_mid (fun σ' H' => (∃ v1, σ' = [some (.ref p), v1]) ∧ BAt A H' p L y ⟨b.steps, b.now, way1 b⟩ ∧ Kp p H H') ?_ ?_
    · rintro σ' H' ⟨⟨v1, rfl⟩, x1, k1⟩
      have stay : ∀ H2, Same H' H2 → wayOf b = way1 b → Q .non H2 := fun H2 s2 e => by
        refine k H2 ?_ (k1.trans (Kp.of s2))
        unfold MB.settle
        rw [e]
        exact x1.mono s2
      refine ⟨_, rfl, qB_way T x1 ⟨rfl, _, rfl, ?_⟩⟩
      refine ite2 (fun e => ?_) (fun e => ?_)
      · have e : way1 b = 1 := vN_eq.mp (of_decide_eq_true e)
        refine ⟨_, rfl, qB_steps T x1 ⟨L, rfl, ⟨_, SqL.of x1.ls.ls⟩, fun D hD => lc_bl (A := A) (y := y) (ms := b.steps) MS.clean x1.ls hD hb.lt (fun _ => rfl) (fun i m H2 Q2 em s2 q2 => ?_) fun H2 s2 hl => ?_⟩⟩
        · have sx := (x1.ls.st i m em).mono s2
          exact ⟨_, rfl, cS sx (fun _ _ _ _ _ _ => rfl) ⟨_, _, _, _, rfl, sx, q2⟩⟩
        · refine ⟨D, _, rfl, SqL.of hl, _, rfl, ?_⟩
          rw [map_all]
          refine ite2 (fun e2 => ?_) (fun e2 => ?_)
          · obtain ⟨⟨dx, h1⟩, _⟩ := x1.mono s2
            refine ⟨_, rfl, p, A.CB, dx, _, rfl, h1, T.clB, T.nB_way, (by show 3 < 1000; decide), ?_⟩
            refine k _ ?_ fun c o ec hc => by rw [upd_ne hc]; exact s2 _ _ (k1 c o ec hc)
            have hw : wayOf b = 3 := by rw [wayOf_eq, if_pos ⟨e, e2⟩]
            unfold MB.settle
            rw [hw]
            exact (x1.mono s2).set h1
          · exact stay _ s2 (by rw [wayOf_eq, if_neg fun z => e2 z.2])
      · have e : ¬ way1 b = 1 := fun z => e (decide_eq_true (by rw [z]; rfl))
        exact iteF (stay _ (Same.refl _) (by rw [wayOf_eq, if_neg fun z => e z.1]))
    · intro N hN
      refine ⟨_, rfl, qB_way T x ⟨rfl, _, rfl, ?_⟩⟩
      refine ite2 (fun e => ?_) (fun e => ?_)
      · have e : b.way = 0 := vN_eq.mp (of_decide_eq_true e)
        refine ⟨_, rfl, qB_steps T x ⟨L, rfl, ⟨_, SqL.of x.ls.ls⟩, fun D hD => lc_bl (A := A) (y := y) (ms := b.steps) (fun m => m.givenUp b.now) x.ls hD hb.lt (fun _ => rfl) (fun i m H2 Q2 em s2 q2 => ?_) fun H2 s2 hl => ?_⟩⟩
        · have sx := (x.ls.st i m em).mono s2
          have xx := x.mono s2
          exact ⟨_, rfl, cS sx (fun _ _ _ _ _ _ => rfl) ⟨_, rfl, qB_now T xx ⟨_, _, _, _, _, rfl, sx, hb.tri m (List.mem_of_getElem? em), q2⟩⟩⟩
        · refine ⟨D, _, rfl, SqL.of hl, _, rfl, ?_⟩
          rw [map_any]
          refine ite2 (fun e2 => ?_) (fun e2 => ?_)
          · obtain ⟨⟨dx, h1⟩, _⟩ := x.mono s2
            refine ⟨_, rfl, p, A.CB, dx, _, rfl, h1, T.clB, T.nB_way, (by show 3 < 1000; decide), ?_⟩
            refine hN _ _ ⟨⟨_, rfl⟩, ?_, fun c o ec hc => by rw [upd_ne hc]; exact s2 _ _ ec⟩
            have hw : way1 b = 1 := by unfold way1; rw [if_pos e, if_pos e2]
            rw [hw]
            exact (x.mono s2).set h1
          · have x2 := x.mono s2
            refine ⟨_, rfl, qB_steps T x2 ⟨L, rfl, ⟨_, SqL.of x2.ls.ls⟩, fun D2 hD2 => lc_bl (A := A) (y := y) (ms := b.steps) (fun m => m.d.well) x2.ls hD2 hb.lt (fun _ => rfl) (fun i m H3 Q3 em s3 q3 => ?_) fun H3 s3 hl3 => ?_⟩⟩
            · have sx := (x2.ls.st i m em).mono s3
              exact ⟨_, rfl, cS sx (fun _ _ _ _ _ _ => rfl) ⟨_, _, _, _, rfl, sx, q3⟩⟩
            · refine ⟨D2, _, rfl, SqL.of hl3, _, rfl, ?_⟩
              rw [map_all]
              have s23 := s2.trans s3
              refine ite2 (fun e3 => ?_) (fun e3 => ?_)
              · obtain ⟨⟨dx, h1⟩, _⟩ := x.mono s23
                refine ⟨_, rfl, p, A.CB, dx, _, rfl, h1, T.clB, T.nB_way, (by show 3 < 1000; decide), ?_⟩
                refine hN _ _ ⟨⟨_, rfl⟩, ?_, fun c o ec hc => by rw [upd_ne hc]; exact s23 _ _ ec⟩
                have hw : way1 b = 2 := by unfold way1; rw [if_pos e, if_neg e2, if_pos e3]
                rw [hw]
                exact (x.mono s23).set h1
              · refine hN _ _ ⟨⟨_, rfl⟩, ?_, Kp.of s23⟩
                have hw : way1 b = b.way := by unfold way1; rw [if_pos e, if_neg e2, if_neg e3, e]
                rw [hw]
                exact x.mono s23
      · have e : ¬ b.way = 0 := fun z => e (decide_eq_true (by rw [z]; rfl))
        refine hN _ _ ⟨⟨_, rfl⟩, ?_, Kp.of (Same.refl _)⟩
        have hw : way1 b = b.way := by unfold way1; rw [if_neg e]
        rw [hw]
        exact x
end
end LD
namespace LD
open PySem L2
theorem HB.put {b : MB} {i : Nat} {m : MS} {c : Bool} {k r : Nat} (h : HB b) (e : b.steps[i]? = some m) : HB (b.put i (m.setTl c ((m.tl c).take k r))) := by
  have hm := List.mem_of_getElem? e
  refine ⟨by rw [put_len]; exact h.le, fun x hx => ?_, fun x hx => ?_⟩
  · rcases put_mem hx with rfl | hx
    · rw [(setTl_rule m c _).2.2.1]; exact h.tri m hm
    · exact h.tri x hx
  · rcases put_mem hx with rfl | hx
    · have := h.sz m hm
      cases c with
      | false => exact ⟨by show (m.d.rs.set _ _).length < _; rw [List.length_set]; exact this.1, this.2⟩
      | true => exact ⟨this.1, by show (m.u.rs.set _ _).length < _; rw [List.length_set]; exact this.2⟩
    · exact h.sz x hx
section
variable {P : Program} {w : World} {K : PySem.W.Frag} {mg : Str → Option Value} {base : Heap} {A : Ad}
theorem seq_c {v : V} {i : Nat} {u : TS} {D : Ends} {σ : St} {H : Hp} (h : u D (σ.set i (some v)) H) : tSeq (tAsg (tC v) (gName i)) u D σ H := h
/-- an answer that is a list -/
noncomputable def spB_next (A : Ad) : Sp := fun vs H Q _ => ∃ (p L : Addr) (y : Lay) (b : MB), vs = [.ref p] ∧ BAt A H p L y b ∧ HB b ∧
  ∀ H' r, BAt A H' p L y b.next.1 → H' r = some (.lst (b.next.2.map V.int)) → H r = none → Fr p y b.steps.length H H' → Q (.ref r) H'
theorem BAt.new {A : Ad} {H : Hp} {p L r : Addr} {y : Lay} {b : MB} {o : HO} (x : BAt A H p L y b) (h : H r = none) : BAt A (upd H r o) p L y b := x.mono (Same.upd h)
theorem ok_B_tell_next (T : Txt K mg A) : ∃ fd, Binds K fd ["self"] [] ∧ FnOk P w K mg base CX0 4 A.B_tell_next fd ["self"] (spB_next A) := by
  obtain ⟨fd, F, b⟩ := T.f_B_tell_next
  obtain ⟨_, b_B_place_to_do, G_B_place_to_do⟩ := ok_B_place_to_do (P := P) (w := w) (base := base) T
  obtain ⟨_, b_B_place_to_undo, G_B_place_to_undo⟩ := ok_B_place_to_undo (P := P) (w := w) (base := base) T
  obtain ⟨_, b_S_tellings, G_S_tellings⟩ := ok_S_tellings (P := P) (w := w) (base := base) T
  obtain ⟨_, b_T_tell, G_T_tell⟩ := ok_T_tell (P := P) (w := w) (base := base) T
  obtain ⟨_, b_T_how_many, G_T_how_many⟩ := ok_T_how_many (P := P) (w := w) (base := base) T
  refine ⟨fd, b, F.ok sc_B_tell_next (fun vs H Q E h => ?_) (fun cdv AA outer s H vs Q E hr h => ?_)⟩
  · obtain ⟨p, L, y, b, rfl, _⟩ := h
    rfl
  · obtain ⟨p, L, y, b, rfl, x, hb, k⟩ := h
    refine ⟨_, pss_cons (ps_set (i := 1) sc_B_tell_next.nd rfl (Or.inl rfl) (pe_glob (v := .int (0)) (by rfl) T.g_TO_DO ⟨_, rfl⟩)) (pss_cons (ps_set (i := 2) sc_B_tell_next.nd rfl (Or.inl rfl) pe_non) (pss_cons (ps_if (pt_cmpR op_eq (pe_fldK (K := K) rfl (pv 0) rfl) (pe_glob (v := .int (0)) (by rfl) T.g_ON ⟨_, rfl⟩) (nomark _)) (pss_one (ps_set (i := 2) sc_B_tell_next.nd rfl (Or.inl rfl) (pe_meth0 (pv 0) T.clB T.m_B_place_to_do G_B_place_to_do (hr.mono (by decide)) b_B_place_to_do .nil pass0))) (pss_one (ps_if (pt_cmpR op_eq (pe_fldK (K := K) rfl (pv 0) rfl) (pe_glob (v := .int (1)) (by rfl) T.g_BACK ⟨_, rfl⟩) (nomark _)) (pss_cons (ps_set (i := 1) sc_B_tell_next.nd rfl (Or.inl rfl) (pe_glob (v := .int (1)) (by rfl) T.g_TO_UNDO ⟨_, rfl⟩)) (pss_one (ps_set (i := 2) sc_B_tell_next.nd rfl (Or.inl rfl) (pe_meth0 (pv 0) T.clB T.m_B_place_to_undo G_B_place_to_undo (hr.mono (by decide)) b_B_place_to_undo .nil pass0)))) pss_nil))) (pss_cons (ps_if (pt_cmpR op_isN (pv 2) pe_non (nomark _)) (pss_one (ps_ret (pe_lst (pa_cons (pe_glob (v := .int (0)) (by rfl) T.g_NUMBER_FORM ⟨_, rfl⟩) (pa_cons (pe_glob (v := .int (-11)) (by rfl) T.g_NOTHING ⟨_, rfl⟩) pa_nil))))) pss_nil) (pss_cons (ps_set (i := 3) sc_B_tell_next.nd rfl (Or.inl rfl) (pe_meth (pe_ix (ix_listK (K := K) rfl) (pe_fldK (K := K) rfl (pv 0) rfl) (pv 2) (fun _ _ => rfl)) T.clS T.m_S_tellings G_S_tellings (hr.mono (by decide)) b_S_tellings .nil pass0 (pa_cons (pv 1) pa_nil))) (pss_cons (ps_expr (pe_meth (pv 3) T.clT T.m_T_tell G_T_tell (hr.mono (by decide)) b_T_tell .nil pass0 (pa_cons (pe_fldK (K := K) rfl (pv 0) rfl) pa_nil))) (pss_one (ps_ret (pe_lst (pa_cons (pe_glob (v := .int (1)) (by rfl) T.g_THREE_FORM ⟨_, rfl⟩) (pa_cons (pv 1) (pa_cons (pv 2) (pa_cons (pe_meth0 (pv 3) T.clT T.m_T_how_many G_T_how_many (hr.mono (by decide)) b_T_how_many .nil pass0) pa_nil)))))))))))), ?_⟩
    refine seq_c (seq_c (seq_mid (fun σ' H' => (∃ v3, σ' = [some (.ref p), some (vN (if b.what then 1 else 0)), some (optV b.pick), v3]) ∧ Same H H') ?_ ?_))
    · rintro σ' H' ⟨⟨v3, rfl⟩, s⟩
      have x1 := x.mono s
      refine ⟨_, rfl, rfl, _, rfl, ?_⟩
      cases hp : b.pick with
      | none =>
        have hn : b.next = (b, [0, -11]) := by unfold MB.next; rw [hp]
        rw [hn] at k
        refine iteT ⟨by show 2 ≤ sizeLine; rw [sizeLine_eq]; decide, fun r hr => ?_⟩
        exact k _ r (x1.new hr) upd_same (s.free hr) (Fr.of (s.trans (Same.upd hr)))
      | some i =>
        refine iteF ?_
        have hi : i < b.steps.length := by
          unfold MB.pick at hp
          split at hp
          · exact List.mem_range.mp (List.mem_of_find?_eq_some hp)
          · split at hp
            · exact List.mem_range.mp (List.mem_filter.mp (List.mem_of_getLast? hp)).1
            · cases hp
        have em : b.steps[i]? = some b.steps[i] := List.getElem?_eq_getElem hi
        have sx := x1.ls.st i _ em
        generalize b.steps[i] = m at em sx
        have hn : b.next = (b.put i (m.setTl b.what ((m.tl b.what).tell b.now)), [1, if b.what then 1 else 0, (i : Int), (((m.tl b.what).rs.length + 1 : Nat) : Int)]) := by
          unfold MB.next
          rw [hp]
          simp only [em]
        rw [hn] at k
        have hz := hb.sz m (List.mem_of_getElem? em)
        have hz : (m.tl b.what).rs.length < sizeLine := by
          cases b.what with
          | false => exact hz.1
          | true => exact hz.2
        have hwh : (!decide ((if b.what then 1 else 0) = 0)) = b.what := by cases b.what <;> rfl
        refine ⟨_, rfl, qB_steps T x1 ⟨_, rfl, L, _, _, _, rfl, rfl, SqL.of x1.ls.ls, atI_nat (refs_get hi), ?_⟩⟩
        refine cS sx (fun _ _ _ _ _ _ => rfl) ⟨_, rfl, _, _, _, _, _, rfl, sx, ?_⟩
        rw [hwh]
        refine ⟨_, rfl, cT (sx.tl b.what) (fun _ _ _ _ => rfl) ⟨_, rfl, qB_now T x1 ⟨_, _, _, _, _, rfl, sx.tl b.what, hz, fun H2 t2 k2 => ?_⟩⟩⟩
        refine ⟨_, rfl, _, rfl, _, rfl, cT t2 (fun _ _ _ _ => rfl) ⟨_, _, _, _, rfl, t2, ?_⟩⟩
        refine ⟨by show 4 ≤ sizeLine; rw [sizeLine_eq]; decide, fun r hr => ?_⟩
        have hlen : (((m.tl b.what).tell b.now).rs.length : Int) = (((m.tl b.what).rs.length + 1 : Nat) : Int) := by
          show (((m.tl b.what).rs ++ [0]).length : Int) = _
          rw [List.length_append]
          rfl
        have hr0 : H r = none := by
          refine s.free ?_
          cases q : H' r with
          | none => rfl
          | some o =>
            obtain ⟨⟨d2, ha2⟩, hl2⟩ := t2
            by_cases h1 : r = y.a i b.what
            · rw [h1, ha2] at hr; cases hr
            · by_cases h2 : r = y.l i b.what
              · rw [h2, hl2] at hr; cases hr
              · rw [k2 r o q h1 h2] at hr; cases hr
        refine k _ r ((x1.put em t2 k2).new hr) ?_ hr0 (((Fr.of s).trans (Fr.put hi k2)).trans (Fr.of (Same.upd hr)))
        rw [upd_same]
        show some (HO.lst [V.int 1, vN (if b.what then 1 else 0), V.int (i : Int), V.int (((m.tl b.what).tell b.now).rs.length : Int)]) = some (HO.lst [V.int 1, V.int (if b.what then 1 else 0), V.int (i : Int), V.int (((m.tl b.what).rs.length + 1 : Nat) : Int)])
        rw [hlen]
        cases b.what <;> rfl
    · intro N hN
      refine ⟨_, rfl, qB_way T x ⟨rfl, _, rfl, ?_⟩⟩
      refine ite2 (fun e => ?_) (fun e => ?_)
      · have e : b.way = 0 := vN_eq.mp (of_decide_eq_true e)
        refine ⟨_, rfl, cB x (fun _ _ _ => rfl) ⟨p, L, y, b, rfl, x, hb, fun H1 s1 => hN _ _ ⟨⟨none, ?_⟩, s1⟩⟩⟩
        have e1 : b.what = false := by unfold MB.what; rw [e]; rfl
        have e2 : b.pick = b.placeD := by unfold MB.pick; rw [if_pos e]
        rw [e1, e2]
        rfl
      · have e : ¬ b.way = 0 := fun z => e (decide_eq_true (by rw [z]; rfl))
        refine ⟨_, rfl, qB_way T x ⟨rfl, _, rfl, ?_⟩⟩
        refine ite2 (fun e0 => ?_) (fun e0 => ?_)
        · have e0 : b.way = 1 := vN_eq.mp (of_decide_eq_true e0)
          refine ⟨_, rfl, cB x (fun _ _ _ => rfl) ⟨p, L, y, b, rfl, x, hb, fun H1 s1 => hN _ _ ⟨⟨none, ?_⟩, s1⟩⟩⟩
          have e1 : b.what = true := by unfold MB.what; rw [e0]; rfl
          have e2 : b.pick = b.placeU := by unfold MB.pick; rw [if_neg e, if_pos e0]
          rw [e1, e2]
          rfl
        · have e0 : ¬ b.way = 1 := fun z => e0 (decide_eq_true (by rw [z]; rfl))
          refine hN _ _ ⟨⟨none, ?_⟩, Same.refl _⟩
          have e1 : b.what = false := by unfold MB.what; exact decide_eq_false e0
          have e2 : b.pick = none := by unfold MB.pick; rw [if_neg e, if_neg e0]
          rw [e1, e2]
          rfl
noncomputable def spB_answer (A : Ad) : Sp := fun vs H Q _ => ∃ (p L : Addr) (y : Lay) (b : MB) (i what kk ok : Nat), vs = [.ref p, vN i, vN what, vN kk, vN ok] ∧ BAt A H p L y b ∧ HB b ∧
  ∀ H', BAt A H' p L y (b.answer i what kk ok).1 → Fr p y b.steps.length H H' → Q (.int (b.answer i what kk ok).2) H'
theorem ok_B_take_answer (T : Txt K mg A) : ∃ fd, Binds K fd ["self", "i", "what", "k", "ok"] [] ∧ FnOk P w K mg base CX0 4 A.B_take_answer fd ["self", "i", "what", "k", "ok"] (spB_answer A) := by
  obtain ⟨fd, F, b⟩ := T.f_B_take_answer
  obtain ⟨_, b_S_tellings, G_S_tellings⟩ := ok_S_tellings (P := P) (w := w) (base := base) T
  obtain ⟨_, b_T_is_told, G_T_is_told⟩ := ok_T_is_told (P := P) (w := w) (base := base) T
  obtain ⟨_, b_S_is_nothing_new, G_S_is_nothing_new⟩ := ok_S_is_nothing_new (P := P) (w := w) (base := base) T
  obtain ⟨_, b_T_take_reply, G_T_take_reply⟩ := ok_T_take_reply (P := P) (w := w) (base := base) T
  obtain ⟨_, b_B_settle, G_B_settle⟩ := ok_B_settle (P := P) (w := w) (base := base) T
  refine ⟨fd, b, F.ok sc_B_take_answer (fun vs H Q E h => ?_) (fun cdv AA outer s H vs Q E hr h => ?_)⟩
  · obtain ⟨p, L, y, b, i, what, kk, ok, rfl, _⟩ := h
    rfl
  · obtain ⟨p, L, y, b, i, what, kk, ok, rfl, x, hb, k⟩ := h
    have wrong : b.answer i what kk ok = (b, -22) → Q (.int (-22)) H := fun e => by
      rw [e] at k
      exact k H x (Fr.of (Same.refl _))
    refine ⟨_, pss_cons (ps_if (PW.pt (pw_or (pt_cmpR op_ge (pv 1) (pe_callB (call_lenK (K := K) rfl) (by rfl) T.z_len PySem.boot_len (pa_cons (pe_fldK (K := K) rfl (pv 0) rfl) pa_nil)) (nomark _)) (pw_or (pt_cmpR op_gt (pv 2) (pe_glob (v := .int (1)) (by rfl) T.g_TO_UNDO ⟨_, rfl⟩) (nomark _)) (pw_or1 (pt_cmpR op_gt (pv 4) pe_int (nomark _)))))) (pss_one (ps_ret (pe_glob (v := .int (-22)) (by rfl) T.g_WRONG ⟨_, rfl⟩))) pss_nil) (pss_cons (ps_set (i := 5) sc_B_take_answer.nd rfl (Or.inl rfl) (pe_ix (ix_listK (K := K) rfl) (pe_fldK (K := K) rfl (pv 0) rfl) (pv 1) (fun _ _ => rfl))) (pss_cons (ps_set (i := 6) sc_B_take_answer.nd rfl (Or.inl rfl) (pe_meth (pv 5) T.clS T.m_S_tellings G_S_tellings (hr.mono (by decide)) b_S_tellings .nil pass0 (pa_cons (pv 2) pa_nil))) (pss_cons (ps_if (pt_not (pt_val (pe_meth (pv 6) T.clT T.m_T_is_told G_T_is_told (hr.mono (by decide)) b_T_is_told .nil pass0 (pa_cons (pv 3) pa_nil)))) (pss_one (ps_ret (pe_glob (v := .int (-2)) (by rfl) T.g_NOT_TOLD ⟨_, rfl⟩))) pss_nil) (pss_cons (ps_if (pt_val (pe_meth (pv 5) T.clS T.m_S_is_nothing_new G_S_is_nothing_new (hr.mono (by decide)) b_S_is_nothing_new .nil pass0 (pa_cons (pv 2) (pa_cons (pv 3) (pa_cons (pv 4) pa_nil))))) (pss_one (ps_ret pe_int)) pss_nil) (pss_cons (ps_expr (pe_meth (pv 6) T.clT T.m_T_take_reply G_T_take_reply (hr.mono (by decide)) b_T_take_reply .nil pass0 (pa_cons (pv 3) (pa_cons (pe_ifExp (pt_cmpR op_eq (pv 4) pe_int (nomark _)) (pe_glob (v := .int (2)) (by rfl) T.g_WELL ⟨_, rfl⟩) (pe_glob (v := .int (1)) (by rfl) T.g_ILL ⟨_, rfl⟩)) pa_nil)))) (pss_cons (ps_expr (pe_meth0 (pv 0) T.clB T.m_B_settle G_B_settle (hr.mono (by decide)) b_B_settle .nil pass0)) (pss_one (ps_ret pe_int)))))))), ?_⟩
    refine ⟨_, rfl, _, rfl, qB_steps T x ⟨L, _, rfl, .inl (SqL.of x.ls.ls), _, _, rfl, rfl, _, rfl, ?_⟩⟩
    refine ite2 (fun e => ?_) (fun e => ?_)
    · have e : b.steps.length ≤ i := by
        have := of_decide_eq_true e
        rw [List.length_map, List.length_range] at this
        omega
      refine iteT (wrong ?_)
      unfold MB.answer
      rw [List.getElem?_eq_none e]
    · have hi : i < b.steps.length := by
        apply Decidable.byContradiction
        intro z
        refine e (decide_eq_true ?_)
        rw [List.length_map, List.length_range]
        omega
      have em : b.steps[i]? = some b.steps[i] := List.getElem?_eq_getElem hi
      have sx := x.ls.st i _ em
      generalize b.steps[i] = m at em sx
      refine ⟨_, rfl, _, _, rfl, rfl, _, rfl, ?_⟩
      refine ite2 (fun e1 => ?_) (fun e1 => ?_)
      · have e1 : 1 < what := by have := of_decide_eq_true e1; omega
        refine iteT (wrong ?_)
        unfold MB.answer
        simp only [em]
        rw [if_pos (.inl e1)]
      · have e1 : ¬ 1 < what := fun z => e1 (decide_eq_true (by omega))
        refine ⟨_, rfl, _, _, rfl, rfl, _, rfl, ?_⟩
        refine ite2 (fun e2 => ?_) (fun e2 => ?_)
        · have e2 : 1 < ok := by have := of_decide_eq_true e2; omega
          refine wrong ?_
          unfold MB.answer
          simp only [em]
          rw [if_pos (.inr e2)]
        · have e2 : ¬ 1 < ok := fun z => e2 (decide_eq_true (by omega))
          have ha : b.answer i what kk ok = if (m.tl (!decide (what = 0))).isTold kk = false then (b, -2)
              else if m.old (!decide (what = 0)) kk ok = true then (b, 0)
              else ((b.put i (m.setTl (!decide (what = 0)) ((m.tl (!decide (what = 0))).take kk (if ok = 1 then 2 else 1)))).settle, 1) := by
            unfold MB.answer
            simp only [em]
            rw [if_neg (by omega)]
          rw [ha] at k
          refine ⟨_, rfl, qB_steps T x ⟨_, rfl, L, _, _, _, rfl, rfl, SqL.of x.ls.ls, atI_nat (refs_get hi), ?_⟩⟩
          refine ⟨_, rfl, cS sx (fun _ _ _ _ _ _ => rfl) ⟨_, rfl, _, _, _, _, _, rfl, sx, ?_⟩⟩
          generalize hc : (!decide (what = 0)) = c at k
          have sxc := sx.tl c
          refine ⟨_, rfl, cT sxc (fun _ _ _ _ => rfl) ⟨_, rfl, _, _, _, _, _, rfl, sxc, _, rfl, ?_⟩⟩
          refine ite2 (fun e3 => ?_) (fun e3 => ?_)
          · have e3 : (m.tl c).isTold kk = false := by simpa using e3
            rw [if_pos e3] at k
            exact k H x (Fr.of (Same.refl _))
          · have e3 : (m.tl c).isTold kk = true := by simpa using e3
            rw [if_neg (by rw [e3]; simp)] at k
            refine ⟨_, rfl, cS sx (fun _ _ _ _ _ _ => rfl) ⟨_, rfl, _, rfl, _, rfl, _, _, _, _, _, _, _, rfl, sx, (by rw [hc]; exact e3), _, rfl, ?_⟩⟩
            rw [hc]
            refine ite2 (fun e4 => ?_) (fun e4 => ?_)
            · rw [if_pos e4] at k
              exact k H x (Fr.of (Same.refl _))
            · rw [if_neg e4] at k
              refine ⟨_, rfl, cT sxc (fun _ _ _ _ => rfl) ⟨_, rfl, _, rfl, rfl, _, rfl, ?_⟩⟩
              have fin : ∀ r : Nat, r = (if ok = 1 then 2 else 1) → ∀ H2, TAt A H2 (y.a i c) (y.l i c) m.wait ((m.tl c).take kk r) → (∀ b o, H b = some o → b ≠ y.a i c → b ≠ y.l i c → H2 b = some o) →
                  BAt A H2 p L y (b.put i (m.setTl c ((m.tl c).take kk r))) ∧ HB (b.put i (m.setTl c ((m.tl c).take kk r))) ∧ ∀ H3, BAt A H3 p L y (b.put i (m.setTl c ((m.tl c).take kk r))).settle → Kp p H2 H3 → Q (.int 1) H3 := by
                rintro r rfl H2 t2 k2
                exact ⟨x.put em t2 k2, hb.put em, fun H3 x3 k3 => k H3 x3 ((Fr.put hi k2).trans (Fr.kp k3))⟩
              refine ite2 (fun e5 => ?_) (fun e5 => ?_)
              · have e5 : ok = 1 := vN_eq.mp (of_decide_eq_true e5)
                refine ⟨_, _, _, _, 2, _, rfl, sxc, e3, fun H2 t2 k2 => ?_⟩
                obtain ⟨x2, h2, f2⟩ := fin 2 (by rw [if_pos e5]) H2 t2 k2
                exact ⟨_, rfl, cB x2 (fun _ _ _ => rfl) ⟨_, _, _, _, rfl, x2, h2, f2⟩⟩
              · have e5 : ¬ ok = 1 := fun q => e5 (decide_eq_true (by rw [q]; rfl))
                refine ⟨_, _, _, _, 1, _, rfl, sxc, e3, fun H2 t2 k2 => ?_⟩
                obtain ⟨x2, h2, f2⟩ := fin 1 (by rw [if_neg e5]) H2 t2 k2
                exact ⟨_, rfl, cB x2 (fun _ _ _ => rfl) ⟨_, _, _, _, rfl, x2, h2, f2⟩⟩
noncomputable def spB_tick (A : Ad) : Sp := fun vs H Q _ => ∃ (p L : Addr) (y : Lay) (b : MB) (t : Nat), vs = [.ref p, vN t] ∧ BAt A H p L y b ∧ HB b ∧
  ∀ H', BAt A H' p L y (b.tick t).1 → Fr p y b.steps.length H H' → Q (.int (b.tick t).2) H'
theorem ok_B_tick (T : Txt K mg A) : ∃ fd, Binds K fd ["self", "ticks"] [] ∧ FnOk P w K mg base CX0 4 A.B_tick fd ["self", "ticks"] (spB_tick A) := by
  obtain ⟨fd, F, b⟩ := T.f_B_tick
  obtain ⟨_, b_B_settle, G_B_settle⟩ := ok_B_settle (P := P) (w := w) (base := base) T
  refine ⟨fd, b, F.ok sc_B_tick (fun vs H Q E h => ?_) (fun cdv AA outer s H vs Q E hr h => ?_)⟩
  · obtain ⟨p, L, y, b, t, rfl, _⟩ := h
    rfl
  · obtain ⟨p, L, y, b, t, rfl, x, hb, k⟩ := h
    unfold MB.tick at k
    refine ⟨_, pss_cons (ps_if (pt_cmpR op_gt (pv 1) (pe_glob (v := .int (65535)) (by rfl) T.g_MOST_TICKS ⟨_, rfl⟩) (nomark _)) (pss_one (ps_ret (pe_glob (v := .int (-22)) (by rfl) T.g_WRONG ⟨_, rfl⟩))) pss_nil) (pss_cons (ps_fldaugK (K := K) rfl (pv 0) (pv 1) in_add) (pss_cons (ps_expr (pe_meth0 (pv 0) T.clB T.m_B_settle G_B_settle (hr.mono (by decide)) b_B_settle .nil pass0)) (pss_one (ps_ret (pe_fldK (K := K) rfl (pv 0) rfl))))), ?_⟩
    refine ⟨_, rfl, _, _, rfl, rfl, _, rfl, ?_⟩
    refine ite2 (fun e => ?_) (fun e => ?_)
    · rw [if_pos (show 65535 < t by have := of_decide_eq_true e; omega)] at k
      exact k H x (Fr.of (Same.refl _))
    · rw [if_neg (show ¬ 65535 < t from fun z => e (decide_eq_true (by omega)))] at k
      obtain ⟨⟨dx, h1⟩, _⟩ := id x
      refine ⟨_, rfl, p, A.CB, dx, _, _, rfl, h1, T.clB, T.nB_now, rfl, _, rfl, _, _, rfl, rfl, dx, _, h1, (by show 3 < 1000; decide), ?_⟩
      have x2 : BAt A (upd H p (.ins A.CB dx (bf L (b.now + t) b.way))) p L y ⟨b.steps, b.now + t, b.way⟩ := x.set h1
      refine ⟨_, rfl, cB x2 (fun _ _ _ => rfl) ⟨p, L, y, _, rfl, x2, ⟨hb.le, hb.tri, hb.sz⟩, fun H3 x3 k3 => ?_⟩⟩
      exact ⟨_, rfl, qB_way T x3 (k H3 x3 (Fr.kp (Kp.trans (fun c o e n => by rw [upd_ne n]; exact e) k3)))⟩
noncomputable def spB_halt (A : Ad) : Sp := fun vs H Q _ => ∃ (p L : Addr) (y : Lay) (b : MB), vs = [.ref p] ∧ BAt A H p L y b ∧ HB b ∧
  ∀ H', BAt A H' p L y b.halt.1 → Fr p y b.steps.length H H' → Q (.int b.halt.2) H'
theorem ok_B_turn_back (T : Txt K mg A) : ∃ fd, Binds K fd ["self"] [] ∧ FnOk P w K mg base CX0 4 A.B_turn_back fd ["self"] (spB_halt A) := by
  obtain ⟨fd, F, b⟩ := T.f_B_turn_back
  obtain ⟨_, b_S_is_point_told, G_S_is_point_told⟩ := ok_S_is_point_told (P := P) (w := w) (base := base) T
  obtain ⟨_, b_B_settle, G_B_settle⟩ := ok_B_settle (P := P) (w := w) (base := base) T
  refine ⟨fd, b, F.ok sc_B_turn_back (fun vs H Q E h => ?_) (fun cdv AA outer s H vs Q E hr h => ?_)⟩
  · obtain ⟨p, L, y, b, rfl, _⟩ := h
    rfl
  · obtain ⟨p, L, y, b, rfl, x, hb, k⟩ := h
    unfold MB.halt at k
    refine ⟨_, pss_cons (ps_if (pt_cmpR op_ne (pe_fldK (K := K) rfl (pv 0) rfl) (pe_glob (v := .int (0)) (by rfl) T.g_ON ⟨_, rfl⟩) (nomark _)) (pss_one (ps_ret (pe_glob (v := .int (-11)) (by rfl) T.g_NOTHING ⟨_, rfl⟩))) pss_nil) (pss_cons (ps_if (pt_val (pe_callB (cr_anyK (K := K) rfl rfl) (by rfl) T.z_any (by decide +kernel) (pa_cons (pe_lc rfl sc_B_turn_back.nd (pi_listK (K := K) rfl (pe_fldK (K := K) rfl (pv 0) rfl)) (blkOk_by (N := ["self", "step"]) (sc := defScope s_B_turn_back) (own := [("step", 1)]) (by decide +kernel)) (fun _ _ _ _ _ => (pg_name (i := 1) sc_B_turn_back.nd rfl (Or.inl rfl))) (fun _ _ _ _ _ => pts_nil) (fun _ _ _ _ _ => (pe_meth0 (pv 1) T.clS T.m_S_is_point_told G_S_is_point_told (hr.mono (by decide)) b_S_is_point_told .nil pass0))) pa_nil))) (pss_one (ps_ret (pe_glob (v := .int (-16)) (by rfl) T.g_TOO_LATE ⟨_, rfl⟩))) pss_nil) (pss_cons (ps_fldK (K := K) rfl (pv 0) (pe_glob (v := .int (1)) (by rfl) T.g_BACK ⟨_, rfl⟩) rfl) (pss_cons (ps_expr (pe_meth0 (pv 0) T.clB T.m_B_settle G_B_settle (hr.mono (by decide)) b_B_settle .nil pass0)) (pss_one (ps_ret pe_int))))), ?_⟩
    refine ⟨_, rfl, qB_way T x ⟨rfl, _, rfl, ?_⟩⟩
    refine ite2 (fun e => ?_) (fun e => ?_)
    · rw [if_pos (show b.way ≠ 0 from fun q => by rw [q] at e; exact absurd e (by decide))] at k
      exact k H x (Fr.of (Same.refl _))
    · have e : b.way = 0 := by
        have e : (!decide (vN b.way = vN 0)) ≠ true := e
        rw [dec_vN] at e
        simpa using e
      rw [if_neg (show ¬ b.way ≠ 0 from fun q => q e)] at k
      refine ⟨_, rfl, qB_steps T x ⟨L, rfl, ⟨_, SqL.of x.ls.ls⟩, fun D hD => lc_bl (A := A) (y := y) (ms := b.steps) MS.pointTold x.ls hD hb.lt (fun _ => rfl) (fun i m H2 Q2 em s2 q2 => ?_) fun H2 s2 hl => ?_⟩⟩
      · have sx := (x.ls.st i m em).mono s2
        exact ⟨_, rfl, cS sx (fun _ _ _ _ _ _ => rfl) ⟨_, _, _, _, rfl, sx, q2⟩⟩
      · refine ⟨D, _, rfl, SqL.of hl, _, rfl, ?_⟩
        rw [map_any]
        refine ite2 (fun e2 => ?_) (fun e2 => ?_)
        · rw [if_pos e2] at k
          exact k H2 (x.mono s2) (Fr.of s2)
        · rw [if_neg e2] at k
          obtain ⟨⟨dx, h1⟩, _⟩ := x.mono s2
          refine ⟨_, rfl, p, A.CB, dx, _, rfl, h1, T.clB, T.nB_way, (by show 3 < 1000; decide), ?_⟩
          have x2 : BAt A (upd H2 p (.ins A.CB dx (bf L b.now 1))) p L y ⟨b.steps, b.now, 1⟩ := (x.mono s2).set h1
          refine ⟨_, rfl, cB x2 (fun _ _ _ => rfl) ⟨p, L, y, _, rfl, x2, ⟨hb.le, hb.tri, hb.sz⟩, fun H3 x3 k3 => ?_⟩⟩
          exact k H3 x3 ((Fr.of s2).trans (Fr.kp (Kp.trans (fun c o e n => by rw [upd_ne n]; exact e) k3)))
noncomputable def spB_step (A : Ad) : Sp := fun vs H Q _ => ∃ (p L : Addr) (y : Lay) (b : MB) (i : Nat), vs = [.ref p, vN i] ∧ BAt A H p L y b ∧
  ∀ H' r, Same H H' → H r = none → H' r = some (.lst ((b.step i).map V.int)) → Q (.ref r) H'
theorem ok_B_tell_step (T : Txt K mg A) : ∃ fd, Binds K fd ["self", "i"] [] ∧ FnOk P w K mg base CX0 3 A.B_tell_step fd ["self", "i"] (spB_step A) := by
  obtain ⟨fd, F, b⟩ := T.f_B_tell_step
  obtain ⟨_, b_S_standing, G_S_standing⟩ := ok_S_standing (P := P) (w := w) (base := base) T
  obtain ⟨_, b_T_how_many, G_T_how_many⟩ := ok_T_how_many (P := P) (w := w) (base := base) T
  refine ⟨fd, b, F.ok sc_B_tell_step (fun vs H Q E h => ?_) (fun cdv AA outer s H vs Q E hr h => ?_)⟩
  · obtain ⟨p, L, y, b, i, rfl, _⟩ := h
    rfl
  · obtain ⟨p, L, y, b, i, rfl, x, k⟩ := h
    unfold MB.step at k
    refine ⟨_, pss_cons (ps_if (pt_cmpR op_ge (pv 1) (pe_callB (call_lenK (K := K) rfl) (by rfl) T.z_len PySem.boot_len (pa_cons (pe_fldK (K := K) rfl (pv 0) rfl) pa_nil)) (nomark _)) (pss_one (ps_ret (pe_lst (pa_cons (pe_glob (v := .int (0)) (by rfl) T.g_NUMBER_FORM ⟨_, rfl⟩) (pa_cons (pe_glob (v := .int (-22)) (by rfl) T.g_WRONG ⟨_, rfl⟩) pa_nil))))) pss_nil) (pss_cons (ps_set (i := 2) sc_B_tell_step.nd rfl (Or.inl rfl) (pe_ix (ix_listK (K := K) rfl) (pe_fldK (K := K) rfl (pv 0) rfl) (pv 1) (fun _ _ => rfl))) (pss_one (ps_ret (pe_lst (pa_cons (pe_glob (v := .int (1)) (by rfl) T.g_THREE_FORM ⟨_, rfl⟩) (pa_cons (pe_meth0 (pe_fldK (K := K) rfl (pv 2) rfl) T.clT T.m_T_how_many G_T_how_many (hr.mono (by decide)) b_T_how_many .nil pass0) (pa_cons (pe_meth0 (pe_fldK (K := K) rfl (pv 2) rfl) T.clT T.m_T_how_many G_T_how_many (hr.mono (by decide)) b_T_how_many .nil pass0) (pa_cons (pe_meth0 (pv 2) T.clS T.m_S_standing G_S_standing (hr.mono (by decide)) b_S_standing .nil pass0) pa_nil)))))))), ?_⟩
    refine ⟨_, rfl, _, rfl, qB_steps T x ⟨L, _, rfl, .inl (SqL.of x.ls.ls), _, _, rfl, rfl, _, rfl, ?_⟩⟩
    refine ite2 (fun e => ?_) (fun e => ?_)
    · have e : b.steps.length ≤ i := by
        have := of_decide_eq_true e
        rw [List.length_map, List.length_range] at this
        omega
      rw [List.getElem?_eq_none e] at k
      exact ⟨by show 2 ≤ sizeLine; rw [sizeLine_eq]; decide, fun r hr => k _ r (Same.upd hr) hr upd_same⟩
    · have hi : i < b.steps.length := by
        apply Decidable.byContradiction
        intro z
        refine e (decide_eq_true ?_)
        rw [List.length_map, List.length_range]
        omega
      have em : b.steps[i]? = some b.steps[i] := List.getElem?_eq_getElem hi
      have sx := x.ls.st i _ em
      generalize b.steps[i] = m at em sx
      rw [em] at k
      refine ⟨_, rfl, qB_steps T x ⟨_, rfl, L, _, _, _, rfl, rfl, SqL.of x.ls.ls, atI_nat (refs_get hi), ?_⟩⟩
      refine ⟨_, rfl, qS_doing T sx (cT (sx.tl false) (fun _ _ _ _ => rfl) ⟨_, _, _, _, rfl, sx.tl false, ?_⟩)⟩
      refine ⟨_, rfl, qS_undoing T sx (cT (sx.tl true) (fun _ _ _ _ => rfl) ⟨_, _, _, _, rfl, sx.tl true, ?_⟩)⟩
      refine ⟨_, rfl, cS sx (fun _ _ _ _ _ _ => rfl) ⟨_, _, _, _, rfl, sx, ?_⟩⟩
      exact ⟨by show 4 ≤ sizeLine; rw [sizeLine_eq]; decide, fun r hr => k _ r (Same.upd hr) hr upd_same⟩
end
end LD
namespace LD
open PySem L2
/-- [f(place, step) for place, step in enumerate(steps)]: a list of truth values -/
theorem lc_blE {K : PySem.W.Frag} {A : Ad} {L : Addr} {y : Lay} {ms : List MS} {p q : Nat} {te : TE} {vs : List Nat} {σ : St} {H1 : Hp} {D : Addr} {Qd : Hp → Prop} (f : Nat → MS → Bool) (hx : Ls A H1 L y ms) (hD : H1 D = none) (hz : ms.length < sizeLine)
    (hw : ∀ v w, wipe (((wipe σ vs).set p v).set q w) vs = wipe σ vs)
    (hs : ∀ i m H Q, ms[i]? = some m → Same H1 H → Q (V.bl (f i m)) H → te (((wipe σ vs).set p (some (.int (i : Nat)))).set q (some (.ref (y.s i)))) H Q)
    (hd : ∀ H (bs : List Bool), Same H1 H → H D = some (.lst (bs.map V.bl)) → bs.all id = allI f ms → Qd H) :
    ∃ W : Nat → Nat → Hp → Prop, (∃ m, W 0 m (upd H1 D (.lst []))) ∧ ∀ i m H, W i m H →
      ((Ite K L).stop i H ∧ Qd H) ∨ ((Ite K L).go i H ∧ ∃ Nx : Hp → Prop, (∀ H', Nx H' → ∃ m', m' < m ∧ W (i + 1) m' H') ∧ ∀ x H', (Ite K L).yld i H x H' → gTup K 2 (gCons (gName p) (gCons (gName q) gNil)) x (wipe σ vs) H' fun σ2 H2 => wipe σ2 vs = wipe σ vs ∧ tYes σ2 H2 fun b H3 =>
        if b = true then te σ2 H3 fun y H4 => ∃ acc, H4 D = some (.lst acc) ∧ acc.length < sizeLine ∧ Nx (upd H4 D (.lst (acc ++ [y]))) else Nx H3) := by
  refine lc_enum (xs := refs y ms.length) (fun i H => Same H1 H ∧ ∃ bs : List Bool, bs.length = i ∧ H D = some (.lst (bs.map V.bl)) ∧ (bs.all id = true ↔ ∀ (j : Nat) (m : MS), j < i → ms[j]? = some m → f j m = true))
    ⟨fun b o e => by rw [upd_ne (ne_of_none e hD)]; exact e, [], rfl, upd_same, ⟨fun _ j m h => absurd h (Nat.not_lt_zero j), fun _ => rfl⟩⟩ (fun i H _ h => SqL.of (h.1 _ _ hx.ls)) hw (fun i x H t hi h ht => ?_) (fun H h => ?_)
  · obtain ⟨s, bs, hl, hD2, hall⟩ := h
    obtain ⟨hlt, rfl⟩ := refs_at hi
    have em : ms[i]? = some ms[i] := List.getElem?_eq_getElem hlt
    have s2 := s.trans (Same.upd (o := .tup [.int (i : Nat), .ref (y.s i)]) ht)
    have htD : D ≠ t := ne_of_none hD2 ht
    refine tyes (hs i ms[i] _ _ em s2 ⟨_, by rw [upd_ne htD]; exact hD2, ?_, ?_, bs ++ [f i ms[i]], ?_, ?_, ?_⟩)
    · rw [List.length_map, hl]; omega
    · exact fun b o e => by rw [upd_ne (ne_of_none e hD)]; exact s2 b o e
    · rw [List.length_append, hl]; rfl
    · rw [upd_same, List.map_append]; rfl
    · rw [List.all_append, Bool.and_eq_true, hall]
      constructor
      · rintro ⟨h1, h2⟩ j m hj e
        by_cases hji : j = i
        · subst hji
          rw [em] at e
          cases e
          simpa using h2
        · exact h1 j m (by omega) e
      · intro h1
        refine ⟨fun j m hj e => h1 j m (by omega) e, ?_⟩
        have := h1 i _ (Nat.lt_succ_self i) em
        simp [this]
  · obtain ⟨s, bs, hl, hD2, hall⟩ := h
    refine hd H bs s hD2 ?_
    rw [Bool.eq_iff_iff, hall, allI_iff, refs_len]
    exact ⟨fun h j m e => h j m (lt_of_some e) e, fun h j m _ e => h j m e⟩
section
variable {P : Program} {w : World} {K : PySem.W.Frag} {mg : Str → Option Value} {base : Heap} {A : Ad}
noncomputable def spF_step (A : Ad) : Sp := fun vs H Q _ => ∃ (z : Addr) (a l : Bool → Addr) (m : MS) (i : Nat), vs = [vN i, .ref z] ∧ SAt A H z a l m ∧ Q (.bl (fitS i m)) H
theorem nz_shift (n i : Nat) : (!decide (V.int ((n : Int) / 2 ^ ((i : Int)).toNat) = V.int 0)) = !decide (n >>> i = 0) := by
  rw [shrN]
  congr 1
  exact decide_eq_decide.mpr (by simp only [V.int.injEq]; omega)
theorem ok_F_is_step_fit (T : Txt K mg A) : ∃ fd, Binds K fd ["place", "step"] [] ∧ FnOk P w K mg base CX0 1 A.F_is_step_fit fd ["place", "step"] (spF_step A) := by
  obtain ⟨fd, F, b⟩ := T.f_F_is_step_fit
  refine ⟨fd, b, F.ok sc_F_is_step_fit (fun vs H Q E h => ?_) (fun cdv AA outer s H vs Q E hr h => ?_)⟩
  · obtain ⟨z, a, l, m, i, rfl, _⟩ := h
    rfl
  · obtain ⟨z, a, l, m, i, rfl, x, k⟩ := h
    unfold fitS at k
    refine ⟨_, pss_cons (ps_if (pt_cmpR op_ne (pe_op op_shr (pe_fldK (K := K) rfl (pv 1) rfl) (pv 0)) pe_int (nomark _)) (pss_one (ps_ret pe_bl)) pss_nil) (pss_one (ps_ret (pe_and (pe_chain op_le op_le pe_int (pe_fldK (K := K) rfl (pv 1) rfl) (pe_glob (v := .int (65535)) (by rfl) T.g_MOST_WAIT ⟨_, rfl⟩)) (pe_and (pe_chain op_le op_le pe_int (pe_fldK (K := K) rfl (pv 1) rfl) (pe_glob (v := .int (8)) (by rfl) T.g_MOST_TRIES ⟨_, rfl⟩)) (pe_one (pe_cmpR op_le (pe_fldK (K := K) rfl (pv 1) rfl) (pe_glob (v := .int (2)) (by rfl) T.g_BEHIND ⟨_, rfl⟩) (nomark _))))))), ?_⟩
    refine ⟨_, rfl, qS_needs T x ⟨_, rfl, _, _, rfl, rfl, Int.natCast_nonneg i, rfl, _, rfl, ?_⟩⟩
    show if (!decide (V.int ((m.needs : Int) / 2 ^ ((i : Int)).toNat) = V.int 0)) = true then _ else _
    rw [nz_shift]
    refine ite2 (fun e => ?_) (fun e => ?_)
    · have e : decide (m.needs >>> i = 0) = false := by simpa using e
      rw [e, Bool.false_and, Bool.false_and, Bool.false_and] at k
      exact k
    · have e : decide (m.needs >>> i = 0) = true := by simpa using e
      rw [e, Bool.true_and] at k
      have d1 : decide ((1 : Int) ≤ (m.wait : Int)) = decide (1 ≤ m.wait) := decide_eq_decide.mpr (by omega)
      have d2 : decide ((m.wait : Int) ≤ 65535) = decide (m.wait ≤ 65535) := decide_eq_decide.mpr (by omega)
      have d3 : decide ((1 : Int) ≤ (m.tries : Int)) = decide (1 ≤ m.tries) := decide_eq_decide.mpr (by omega)
      have d4 : decide ((m.tries : Int) ≤ 8) = decide (m.tries ≤ 8) := decide_eq_decide.mpr (by omega)
      have d5 : decide ((m.kind : Int) ≤ 2) = decide (m.kind ≤ 2) := decide_eq_decide.mpr (by omega)
      rw [← d1, ← d2, ← d3, ← d4, ← d5] at k
      refine ⟨_, rfl, qS_wait T x ⟨_, _, rfl, rfl, _, rfl, ?_⟩⟩
      refine ite2 (fun e1 => ?_) (fun e1 => ?_)
      · rw [e1, Bool.true_and] at k
        refine ⟨_, _, rfl, rfl, _, rfl, ?_⟩
        refine ite2 (fun e2 => ?_) (fun e2 => ?_)
        · rw [e2, Bool.true_and] at k
          refine ⟨_, rfl, qS_tries T x ⟨_, _, rfl, rfl, _, rfl, ?_⟩⟩
          refine ite2 (fun e3 => ?_) (fun e3 => ?_)
          · rw [e3, Bool.true_and] at k
            refine ⟨_, _, rfl, rfl, _, rfl, ?_⟩
            refine ite2 (fun e4 => ?_) (fun e4 => ?_)
            · rw [e4, Bool.true_and] at k
              exact ⟨_, rfl, qS_kind T x ⟨_, _, rfl, rfl, k⟩⟩
            · rw [Bool.eq_false_iff.mpr e4, Bool.false_and] at k
              exact k
          · rw [Bool.eq_false_iff.mpr e3, Bool.false_and, Bool.false_and] at k
            exact ⟨_, rfl, iteF k⟩
        · rw [Bool.eq_false_iff.mpr e2, Bool.false_and, Bool.false_and] at k
          exact k
      · rw [Bool.eq_false_iff.mpr e1, Bool.false_and, Bool.false_and, Bool.false_and] at k
        exact ⟨_, rfl, iteF k⟩
/-- over a list of steps: a list that no other object is -/
noncomputable def spF_needs (A : Ad) : Sp := fun vs H Q _ => ∃ (L : Addr) (y : Lay) (ms : List MS), vs = [.ref L] ∧ Ls A H L y ms ∧ ms.length < sizeLine ∧
  ∀ H' r, Same H H' → H' r = some (.lst ((reachTo ms ms.length).map vN)) → Q (.ref r) H'
theorem bit_one (a q : Nat) : decide (V.int (Builtin.bitAnd ((a : Int) / 2 ^ ((q : Int)).toNat) 1) = V.int 1) = a.testBit q := by
  rw [shrN, bit01]
  cases a.testBit q <;> rfl
theorem map_at {rs : List Nat} {j : Nat} {x : V} (h : (rs.map vN)[j]? = some x) : x = vN (rs.getD j 0) := by
  rw [List.getElem?_map] at h
  rw [List.getD_eq_getElem?_getD]
  cases e : rs[j]? with
  | none => rw [e] at h; cases h
  | some r => rw [e] at h; exact (Option.some.inj h).symm
theorem ok_F_all_needs (T : Txt K mg A) : ∃ fd, Binds K fd ["steps"] [] ∧ FnOk P w K mg base CX0 1 A.F_all_needs fd ["steps"] (spF_needs A) := by
  obtain ⟨fd, F, b⟩ := T.f_F_all_needs
  refine ⟨fd, b, F.ok sc_F_all_needs (fun vs H Q E h => ?_) (fun cdv AA outer s H vs Q E hr h => ?_)⟩
  · obtain ⟨L, y, ms, rfl, _⟩ := h
    rfl
  · obtain ⟨L, y, ms, rfl, x, hz, k⟩ := h
    refine ⟨_, pss_cons (ps_set (i := 1) sc_F_all_needs.nd rfl (Or.inl rfl) (pe_lst pa_nil)) (pss_cons (ps_for PassesOwn.never rfl (pi_listK (K := K) rfl (pv 0)) (pg_name (i := 2) sc_F_all_needs.nd rfl (Or.inl rfl)) (pss_cons (ps_set (i := 3) sc_F_all_needs.nd rfl (Or.inl rfl) (pe_fldK (K := K) rfl (pv 2) rfl)) (pss_cons (ps_for PassesOwn.never rfl (pi_enumK (K := K) rfl (by rfl) T.z_enumerate (pa_cons (pv 1) pa_nil)) (pg_tupK (K := K) (n := 2) rfl rfl (pgs_cons (pg_name (i := 4) sc_F_all_needs.nd rfl (Or.inl rfl)) (pgs_cons (pg_name (i := 5) sc_F_all_needs.nd rfl (Or.inl rfl)) pgs_nil))) (pss_one (ps_if (pt_cmpR op_eq (pe_op op_and (pe_op op_shr (pe_fldK (K := K) rfl (pv 2) rfl) (pv 4)) pe_int) pe_int (nomark _)) (pss_one (ps_aug (i := 3) sc_F_all_needs.nd rfl (Or.inl rfl) (pv 5) iop_or)) pss_nil))) (pss_one (ps_expr (pe_bm PySem.F.plainAttrs_list PySem.F.slot_list_append PySem.F.type_list_append mt_append (pv 1) (pa_cons (pv 3) pa_nil))))))) (pss_one (ps_ret (pv 1)))), ?_⟩
    refine ⟨Nat.zero_le _, fun r hr => ?_⟩
    have s0 : Same H (upd H r (.lst [])) := Same.upd hr
    refine ⟨_, rfl, L, rfl, ⟨_, SqL.of (s0 _ _ x.ls)⟩, for_list (xs := refs y ms.length) (fun i σ H' => (∃ v2 v3 v4 v5, σ = [some (.ref L), some (.ref r), v2, v3, v4, v5]) ∧ Same H H' ∧ H' r = some (.lst ((reachTo ms i).map vN)))
      ⟨⟨none, none, none, none, rfl⟩, s0, upd_same⟩ (fun i σ H' _ h => SqL.of (h.2.1 _ _ x.ls)) ?_ ?_⟩
    · rintro i v σ H' hv ⟨⟨v2, v3, v4, v5, rfl⟩, s, hr1⟩
      obtain ⟨hi, rfl⟩ := refs_at hv
      have em : ms[i]? = some ms[i] := List.getElem?_eq_getElem hi
      have sx := (x.st i _ em).mono s
      generalize ms[i] = m at em sx
      have hl := reachTo_len ms i (by omega)
      refine ⟨_, rfl, qS_needs T sx ?_⟩
      refine ⟨_, rfl, r, _, rfl, SqL.of hr1, for_enum (xs := (reachTo ms i).map vN) (fun j σ H2 => (∃ v4 v5, σ = [some (.ref L), some (.ref r), some (.ref (y.s i)), some (vN (reachN m.needs (reachTo ms i) j)), v4, v5]) ∧ Same H' H2)
        ⟨⟨v4, v5, rfl⟩, Same.refl _⟩ (fun j σ H2 _ h => SqL.of (h.2 _ _ hr1)) ?_ ?_⟩
      · rintro j v σ H2 t hv2 ⟨⟨w4, w5, rfl⟩, s2⟩ ht
        have ev := map_at hv2
        subst ev
        have s3 := s2.trans (Same.upd (o := .tup [.int (j : Nat), vN ((reachTo ms i).getD j 0)]) ht)
        have sx3 := sx.mono s3
        refine ⟨_, rfl, qS_needs T sx3 ⟨_, rfl, _, _, rfl, rfl, Int.natCast_nonneg j, _, _, rfl, rfl, rfl, _, rfl, ?_⟩⟩
        show if decide (V.int (Builtin.bitAnd ((m.needs : Int) / 2 ^ ((j : Int)).toNat) 1) = V.int 1) = true then _ else _
        rw [bit_one]
        have hstep : reachN m.needs (reachTo ms i) (j + 1) = if m.needs.testBit j then reachN m.needs (reachTo ms i) j ||| (reachTo ms i).getD j 0 else reachN m.needs (reachTo ms i) j := rfl
        refine ite2 (fun e => ?_) (fun e => ?_)
        · refine ⟨_, rfl, _, rfl, _, _, rfl, rfl, ⟨some (vN j), some (vN ((reachTo ms i).getD j 0)), ?_⟩, s3⟩
          rw [hstep, if_pos e]
          show [some (V.ref L), some (V.ref r), some (V.ref (y.s i)), some (V.int (Builtin.bitOr ((reachN m.needs (reachTo ms i) j : Nat) : Int) (((reachTo ms i).getD j 0 : Nat) : Int))), _, _] = _
          rw [bOr]
          rfl
        · refine ⟨⟨some (vN j), some (vN ((reachTo ms i).getD j 0)), ?_⟩, s3⟩
          rw [hstep, if_neg e]
          rfl
      · rintro σ H2 ⟨⟨w4, w5, rfl⟩, s2⟩
        have hr2 := s2 _ _ hr1
        refine ⟨_, rfl, .inl ⟨rfl, _, SqL.of hr2⟩, _, rfl, r, _, _, rfl, rfl, hr2, (by rw [List.length_map, hl]; omega), ⟨_, _, _, _, rfl⟩, ?_, ?_⟩
        · exact fun b o e => by rw [upd_ne (ne_of_none e hr)]; exact s2 b o (s b o e)
        · rw [upd_same, reachTo_some em, List.map_append, List.length_map, hl]
          rfl
    · rintro σ H' ⟨⟨v2, v3, v4, v5, rfl⟩, s, hr1⟩
      rw [refs_len] at hr1
      exact ⟨_, rfl, k H' r s hr1⟩
noncomputable def spF_kinds (A : Ad) : Sp := fun vs H Q _ => ∃ (L : Addr) (y : Lay) (ms : List MS) (p : Nat), vs = [.ref L, vN p] ∧ Ls A H L y ms ∧ ms.length < sizeLine ∧ p < ms.length ∧
  ∀ H', Same H H' → Q (.bl (allI (kindFit ms p) ms)) H'
theorem allI_false {f : Nat → MS → Bool} {ms : List MS} {i : Nat} {m : MS} (e : ms[i]? = some m) (h : f i m = false) : allI f ms = false := by
  cases q : allI f ms with
  | false => rfl
  | true => have := allI_iff.mp q i m e; rw [h] at this; cases this
theorem ok_F_are_kinds_fit (T : Txt K mg A) : ∃ fd, Binds K fd ["steps", "point"] [] ∧ FnOk P w K mg base CX0 2 A.F_are_kinds_fit fd ["steps", "point"] (spF_kinds A) := by
  obtain ⟨fd, F, b⟩ := T.f_F_are_kinds_fit
  obtain ⟨_, b_F_all_needs, G_F_all_needs⟩ := ok_F_all_needs (P := P) (w := w) (base := base) T
  refine ⟨fd, b, F.ok sc_F_are_kinds_fit (fun vs H Q E h => ?_) (fun cdv AA outer s H vs Q E hr h => ?_)⟩
  · obtain ⟨L, y, ms, p, rfl, _⟩ := h
    rfl
  · obtain ⟨L, y, ms, p, rfl, x, hz, hp, k⟩ := h
    refine ⟨_, pss_cons (ps_set (i := 2) sc_F_are_kinds_fit.nd rfl (Or.inl rfl) (pe_call G_F_all_needs (hr.mono (by decide)) (by rfl) T.g_F_all_needs T.k_F_all_needs b_F_all_needs .nil pass0 (pa_cons (pv 0) pa_nil))) (pss_cons (ps_for PassesOwn.never rfl (pi_enumK (K := K) rfl (by rfl) T.z_enumerate (pa_cons (pv 0) pa_nil)) (pg_tupK (K := K) (n := 2) rfl rfl (pgs_cons (pg_name (i := 3) sc_F_are_kinds_fit.nd rfl (Or.inl rfl)) (pgs_cons (pg_name (i := 4) sc_F_are_kinds_fit.nd rfl (Or.inl rfl)) pgs_nil))) (pss_cons (ps_if (PW.pt (pw_and (pt_cmpR op_eq (pe_fldK (K := K) rfl (pv 4) rfl) (pe_glob (v := .int (0)) (by rfl) T.g_AHEAD ⟨_, rfl⟩) (nomark _)) (pw_and1 (pt_cmpR op_eq (pe_op op_and (pe_op op_shr (pe_ix (ix_listK (K := K) rfl) (pv 2) (pv 1) (fun _ _ => rfl)) (pv 3)) pe_int) pe_int (nomark _))))) (pss_one (ps_ret pe_bl)) pss_nil) (pss_one (ps_if (PW.pt (pw_and (pt_cmpR op_eq (pe_fldK (K := K) rfl (pv 4) rfl) (pe_glob (v := .int (2)) (by rfl) T.g_BEHIND ⟨_, rfl⟩) (nomark _)) (pw_and1 (pt_cmpR op_eq (pe_op op_and (pe_op op_shr (pe_ix (ix_listK (K := K) rfl) (pv 2) (pv 3) (fun _ _ => rfl)) (pv 1)) pe_int) pe_int (nomark _))))) (pss_one (ps_ret pe_bl)) pss_nil)))) (pss_one (ps_ret pe_bl))), ?_⟩
    refine ⟨_, rfl, L, y, ms, rfl, x, hz, fun H1 r s1 hr => ?_⟩
    have hl := reachTo_len ms ms.length (Nat.le_refl _)
    have hat : ∀ j, j < ms.length → atI ((reachTo ms ms.length).map vN) ((j : Nat) : Int) = some (vN ((reachTo ms ms.length).getD j 0)) := fun j hj => by
      refine atI_nat ?_
      rw [List.getElem?_map, List.getD_eq_getElem?_getD, List.getElem?_eq_getElem (by omega)]
      rfl
    refine ⟨_, rfl, L, _, rfl, SqL.of (s1 _ _ x.ls), for_enum (xs := refs y ms.length) (fun i σ H' => (∃ v3 v4, σ = [some (.ref L), some (vN p), some (.ref r), v3, v4]) ∧ Same H1 H' ∧ ∀ (j : Nat) (m : MS), j < i → ms[j]? = some m → kindFit ms p j m = true)
      ⟨⟨none, none, rfl⟩, Same.refl _, fun j m h => absurd h (Nat.not_lt_zero j)⟩ (fun i σ H' _ h => SqL.of ((s1.trans h.2.1) _ _ x.ls)) ?_ ?_⟩
    · rintro i v σ H' t hv ⟨⟨v3, v4, rfl⟩, s, hn⟩ ht
      obtain ⟨hi, rfl⟩ := refs_at hv
      have em : ms[i]? = some ms[i] := List.getElem?_eq_getElem hi
      have s2 := s.trans (Same.upd (o := .tup [.int (i : Nat), .ref (y.s i)]) ht)
      have sx := (x.st i _ em).mono (s1.trans s2)
      have hr2 := s2 _ _ hr
      generalize ms[i] = m at em sx
      have bad : kindFit ms p i m = false → Q (.bl false) (upd H' t (.tup [.int (i : Nat), .ref (y.s i)])) := fun h0 => by
        have kk := k _ (s1.trans s2)
        rw [allI_false em h0] at kk
        exact kk
      have good : kindFit ms p i m = true → (∃ v3 v4, [some (V.ref L), some (vN p), some (V.ref r), some (V.int i), some (V.ref (y.s i))] = [some (.ref L), some (vN p), some (.ref r), v3, v4]) ∧ Same H1 (upd H' t (.tup [.int (i : Nat), .ref (y.s i)])) ∧ ∀ (j : Nat) (m : MS), j < i + 1 → ms[j]? = some m → kindFit ms p j m = true := fun h0 => by
        refine ⟨⟨_, _, rfl⟩, s2, fun j n hj e => ?_⟩
        by_cases hji : j = i
        · subst hji
          rw [em] at e
          cases e
          exact h0
        · exact hn j n (by omega) e
      have hk : kindFit ms p i m = (!(decide (m.kind = 0) && !((reachTo ms ms.length).getD p 0).testBit i) && !(decide (m.kind = 2) && !((reachTo ms ms.length).getD i 0).testBit p)) := rfl
      have part2 : (decide (m.kind = 0) && !((reachTo ms ms.length).getD p 0).testBit i) = false → kindFit ms p i m = !(decide (m.kind = 2) && !((reachTo ms ms.length).getD i 0).testBit p) := fun h0 => by rw [hk, h0]; rfl
      refine seq_mid (fun σ' H2 => σ' = [some (.ref L), some (vN p), some (.ref r), some (.int (i : Nat)), some (.ref (y.s i))] ∧ H2 = upd H' t (.tup [.int (i : Nat), .ref (y.s i)]) ∧ (decide (m.kind = 0) && !((reachTo ms ms.length).getD p 0).testBit i) = false) ?_ ?_
      · rintro σ' H2 ⟨rfl, rfl, h0⟩
        have hk2 := part2 h0
        refine ⟨_, rfl, qS_kind T sx ⟨rfl, _, rfl, ?_⟩⟩
        refine ite2 (fun e => ?_) (fun e => ?_)
        · have e : m.kind = 2 := vN_eq.mp (of_decide_eq_true e)
          rw [decide_eq_true e, Bool.true_and, Bool.not_not] at hk2
          refine ⟨_, rfl, _, rfl, r, _, _, _, rfl, rfl, SqL.of hr2, hat i hi, _, rfl, _, _, rfl, rfl, Int.natCast_nonneg p, _, _, rfl, rfl, rfl, _, rfl, ?_⟩
          show if decide (V.int (Builtin.bitAnd ((((reachTo ms ms.length).getD i 0 : Nat) : Int) / 2 ^ ((p : Int)).toNat) 1) = V.int 0) = true then _ else _
          rw [held_bit]
          refine ite2 (fun e2 => ?_) (fun e2 => ?_)
          · exact bad (by rw [hk2]; simpa using e2)
          · exact good (by rw [hk2]; simpa using e2)
        · have e : ¬ m.kind = 2 := fun q => e (decide_eq_true (by rw [q]; rfl))
          rw [decide_eq_false e, Bool.false_and] at hk2
          exact iteF (good hk2)
      · intro N hN
        refine ⟨_, rfl, qS_kind T sx ⟨rfl, _, rfl, ?_⟩⟩
        refine ite2 (fun e => ?_) (fun e => ?_)
        · have e : m.kind = 0 := vN_eq.mp (of_decide_eq_true e)
          refine ⟨_, rfl, _, rfl, r, _, _, _, rfl, rfl, SqL.of hr2, hat p hp, _, rfl, _, _, rfl, rfl, Int.natCast_nonneg i, _, _, rfl, rfl, rfl, _, rfl, ?_⟩
          show if decide (V.int (Builtin.bitAnd ((((reachTo ms ms.length).getD p 0 : Nat) : Int) / 2 ^ ((i : Int)).toNat) 1) = V.int 0) = true then _ else _
          rw [held_bit]
          refine ite2 (fun e2 => ?_) (fun e2 => ?_)
          · refine bad ?_
            rw [hk, decide_eq_true e, e2]
            rfl
          · refine hN _ _ ⟨rfl, rfl, ?_⟩
            rw [Bool.eq_false_iff.mpr e2, Bool.and_false]
        · have e : ¬ m.kind = 0 := fun q => e (decide_eq_true (by rw [q]; rfl))
          refine iteF (hN _ _ ⟨rfl, rfl, ?_⟩)
          rw [decide_eq_false e, Bool.false_and]
    · rintro σ H' ⟨⟨v3, v4, rfl⟩, s, hn⟩
      rw [refs_len] at hn
      have ha : allI (kindFit ms p) ms = true := allI_iff.mpr fun j m e => hn j m (lt_of_some e) e
      have kk := k _ (s1.trans s)
      rw [ha] at kk
      exact kk
noncomputable def spF_fit (A : Ad) : Sp := fun vs H Q _ => ∃ (L : Addr) (y : Lay) (ms : List MS), vs = [.ref L] ∧ Ls A H L y ms ∧ ms.length < sizeLine ∧ ∀ H', Same H H' → Q (.bl (fit ms)) H'
noncomputable def pts (ms : List MS) (i : Nat) : List Nat := (List.range i).filter fun j => match ms[j]? with
  | some m => decide (m.kind = 1)
  | none => false
theorem pts_succ {ms : List MS} {i : Nat} {m : MS} (e : ms[i]? = some m) : pts ms (i + 1) = pts ms i ++ if m.kind = 1 then [i] else [] := by
  unfold pts
  rw [List.range_succ, List.filter_append, List.filter_cons, List.filter_nil]
  congr 1
  rw [e]
  by_cases h : m.kind = 1
  · rw [if_pos h]
    simp [h]
  · rw [if_neg h]
    simp [h]
theorem pts_le (ms : List MS) (i : Nat) : (pts ms i).length ≤ i := by
  have := List.length_filter_le (fun j => match ms[j]? with
    | some m => decide (m.kind = 1)
    | none => false) (List.range i)
  rw [List.length_range] at this
  exact this
theorem ok_F_are_steps_fit (T : Txt K mg A) : ∃ fd, Binds K fd ["steps"] [] ∧ FnOk P w K mg base CX0 3 A.F_are_steps_fit fd ["steps"] (spF_fit A) := by
  obtain ⟨fd, F, b⟩ := T.f_F_are_steps_fit
  obtain ⟨_, b_F_is_step_fit, G_F_is_step_fit⟩ := ok_F_is_step_fit (P := P) (w := w) (base := base) T
  obtain ⟨_, b_F_are_kinds_fit, G_F_are_kinds_fit⟩ := ok_F_are_kinds_fit (P := P) (w := w) (base := base) T
  refine ⟨fd, b, F.ok sc_F_are_steps_fit (fun vs H Q E h => ?_) (fun cdv AA outer s H vs Q E hr h => ?_)⟩
  · obtain ⟨L, y, ms, rfl, _⟩ := h
    rfl
  · obtain ⟨L, y, ms, rfl, x, hz, k⟩ := h
    have no : ∀ {H'}, Same H H' → fit ms = false → Q (.bl false) H' := fun {H'} s e => by
      have kk := k H' s
      rw [e] at kk
      exact kk
    refine ⟨_, pss_cons (ps_if (pt_not (pt_chain op_le op_le pe_int (pe_callB (call_lenK (K := K) rfl) (by rfl) T.z_len PySem.boot_len (pa_cons (pv 0) pa_nil)) (pe_glob (v := .int (32)) (by rfl) T.g_MOST_STEPS ⟨_, rfl⟩))) (pss_one (ps_ret pe_bl)) pss_nil) (pss_cons (ps_if (pt_not (pt_val (pe_callB (cr_allK (K := K) rfl rfl) (by rfl) T.z_all (by decide +kernel) (pa_cons (pe_lc rfl sc_F_are_steps_fit.nd (pi_enumK (K := K) rfl (by rfl) T.z_enumerate (pa_cons (pv 0) pa_nil)) (blkOk_by (N := ["steps", "place", "step", "points"]) (sc := defScope s_F_are_steps_fit) (own := [("place", 1), ("step", 2)]) (by decide +kernel)) (fun _ _ _ _ _ => (pg_tupK (K := K) (n := 2) rfl rfl (pgs_cons (pg_name (i := 1) sc_F_are_steps_fit.nd rfl (Or.inl rfl)) (pgs_cons (pg_name (i := 2) sc_F_are_steps_fit.nd rfl (Or.inl rfl)) pgs_nil)))) (fun _ _ _ _ _ => pts_nil) (fun _ _ _ _ _ => (pe_call G_F_is_step_fit (hr.mono (by decide)) (by rfl) T.g_F_is_step_fit T.k_F_is_step_fit b_F_is_step_fit .nil pass0 (pa_cons (pv 1) (pa_cons (pv 2) pa_nil))))) pa_nil)))) (pss_one (ps_ret pe_bl)) pss_nil) (pss_cons (ps_setLc (i := 3) rfl sc_F_are_steps_fit.nd rfl rfl (sw_true rfl rfl rfl rfl) (pi_enumK (K := K) rfl (by rfl) T.z_enumerate (pa_cons (pv 0) pa_nil)) (blkOk_by (N := ["steps", "place", "step", "points"]) (sc := defScope s_F_are_steps_fit) (own := [("place", 1), ("step", 2)]) (by decide +kernel)) (fun _ _ _ _ _ => (pg_tupK (K := K) (n := 2) rfl rfl (pgs_cons (pg_name (i := 1) sc_F_are_steps_fit.nd rfl (Or.inl rfl)) (pgs_cons (pg_name (i := 2) sc_F_are_steps_fit.nd rfl (Or.inl rfl)) pgs_nil)))) (fun _ _ _ _ _ => (pts_one (pt_cmpR op_eq (pe_fldK (K := K) rfl (pv 2) rfl) (pe_glob (v := .int (1)) (by rfl) T.g_POINT ⟨_, rfl⟩) (nomark _)))) (fun _ _ _ _ _ => (pv 1))) (pss_cons (ps_if (pt_cmpR op_eq (pe_callB (call_lenK (K := K) rfl) (by rfl) T.z_len PySem.boot_len (pa_cons (pv 3) pa_nil)) pe_int (nomark _)) (pss_one (ps_ret (pe_callB (cr_allK (K := K) rfl rfl) (by rfl) T.z_all (by decide +kernel) (pa_cons (pe_lc rfl sc_F_are_steps_fit.nd (pi_listK (K := K) rfl (pv 0)) (blkOk_by (N := ["steps", "place", "step", "points"]) (sc := defScope s_F_are_steps_fit) (own := [("step", 2)]) (by decide +kernel)) (fun _ _ _ _ _ => (pg_name (i := 2) sc_F_are_steps_fit.nd rfl (Or.inl rfl))) (fun _ _ _ _ _ => pts_nil) (fun _ _ _ _ _ => (pe_cmpR op_eq (pe_fldK (K := K) rfl (pv 2) rfl) (pe_glob (v := .int (0)) (by rfl) T.g_AHEAD ⟨_, rfl⟩) (nomark _)))) pa_nil)))) pss_nil) (pss_one (ps_ret (pe_and (pe_cmpR op_eq (pe_callB (call_lenK (K := K) rfl) (by rfl) T.z_len PySem.boot_len (pa_cons (pv 3) pa_nil)) pe_int (nomark _)) (pe_one (pe_call G_F_are_kinds_fit (hr.mono (by decide)) (by rfl) T.g_F_are_kinds_fit T.k_F_are_kinds_fit b_F_are_kinds_fit .nil pass0 (pa_cons (pv 0) (pa_cons (pe_ix (ix_listK (K := K) rfl) (pv 3) pe_int (fun _ _ => rfl)) pa_nil)))))))))), ?_⟩
    -- not 1 <= len(steps) <= MOST_STEPS
    refine seq_mid (fun σ' H' => σ' = [some (.ref L), none, none, none] ∧ H' = H ∧ 1 ≤ ms.length ∧ ms.length ≤ 32) ?_ ?_
    rotate_left
    · intro N hN
      have out : ¬ (1 ≤ ms.length ∧ ms.length ≤ 32) → fit ms = false := fun e => by unfold fit; rw [if_neg e]
      refine ⟨_, rfl, L, _, rfl, .inl (SqL.of x.ls), _, _, rfl, rfl, _, rfl, ?_⟩
      refine ite2 (fun e => ?_) (fun e => ?_)
      · have e : 1 ≤ ms.length := by
          have e := of_decide_eq_true e
          rw [List.length_map, List.length_range] at e
          omega
        refine ⟨_, _, rfl, rfl, _, rfl, ?_⟩
        refine ite2 (fun e2 => ?_) (fun e2 => ?_)
        · refine no (Same.refl _) (out fun z => ?_)
          have e2 : ¬ ((ms.length : Int) ≤ 32) := by simpa using e2
          omega
        · refine hN _ _ ⟨rfl, rfl, e, ?_⟩
          have e2 : ((ms.length : Int) ≤ 32) := by simpa using e2
          omega
      · refine ⟨_, rfl, ?_⟩
        refine no (Same.refl _) (out fun z => e (decide_eq_true ?_))
        rw [List.length_map, List.length_range]
        omega
    rintro σ' H' ⟨rfl, rfl, l1, l32⟩
    have fit1 : fit ms = if allI fitS ms = true then (match points ms with
      | [] => ms.all fun m => decide (m.kind = 0)
      | [p] => allI (kindFit ms p) ms
      | _ => false) else false := by unfold fit; exact if_pos ⟨l1, l32⟩
    -- not all([is_step_fit(..) ..])
    refine ⟨_, rfl, L, _, rfl, SqL.of x.ls, fun D hD => lc_blE (A := A) (y := y) (ms := ms) fitS x hD hz (fun _ _ => rfl) (fun i m H2 Q2 em s2 q2 => ?_) fun H2 bs s2 hl hb => ?_⟩
    · have sx := (x.st i m em).mono s2
      exact ⟨_, rfl, _, rfl, _, _, _, _, _, rfl, sx, q2⟩
    · refine ⟨D, _, rfl, SqL.of hl, _, rfl, ?_⟩
      rw [hb]
      refine ite2 (fun e => ?_) (fun e => ?_)
      · have e : allI fitS ms = false := by simpa using e
        exact no s2 (by rw [fit1, if_neg (by rw [e]; simp)])
      · have e : allI fitS ms = true := by simpa using e
        rw [if_pos e] at fit1
        -- points
        refine ⟨_, rfl, L, _, rfl, SqL.of (s2 _ _ x.ls), fun D2 hD2 => lc_enum (xs := refs y ms.length) (fun i H3 => Same H2 H3 ∧ H3 D2 = some (.lst ((pts ms i).map vN)))
          ⟨fun b o e => by rw [upd_ne (ne_of_none e hD2)]; exact e, upd_same⟩ (fun i H3 _ h => SqL.of ((s2.trans h.1) _ _ x.ls)) (fun _ _ => rfl) (fun i v H3 t hi h ht => ?_) (fun H3 h => ?_)⟩
        · obtain ⟨hlt, rfl⟩ := refs_at hi
          have em : ms[i]? = some ms[i] := List.getElem?_eq_getElem hlt
          have s3 := h.1.trans (Same.upd (o := .tup [.int (i : Nat), .ref (y.s i)]) ht)
          have sx := (x.st i _ em).mono (s2.trans s3)
          generalize ms[i] = m at em sx
          have htD : D2 ≠ t := ne_of_none h.2 ht
          refine ⟨_, rfl, qS_kind T sx ⟨rfl, _, rfl, ?_⟩⟩
          refine ite2 (fun e1 => ?_) (fun e1 => ?_)
          · have e1 : m.kind = 1 := vN_eq.mp (of_decide_eq_true e1)
            refine ⟨_, rfl, _, (by rw [upd_ne htD]; exact h.2), ?_, ?_, ?_⟩
            · rw [List.length_map]
              have := pts_le ms i
              omega
            · exact fun b o e => by rw [upd_ne (ne_of_none e hD2)]; exact s3 b o e
            · rw [upd_same, pts_succ em, if_pos e1, List.map_append]
              rfl
          · have e1 : ¬ m.kind = 1 := fun q => e1 (decide_eq_true (by rw [q]; rfl))
            refine ⟨s3, ?_⟩
            rw [upd_ne htD, pts_succ em, if_neg e1, List.append_nil]
            exact h.2
        · obtain ⟨s3, hp3⟩ := h
          rw [refs_len] at hp3
          have hp3 : H3 D2 = some (.lst ((points ms).map vN)) := hp3
          have s23 := s2.trans s3
          have x3 := x.mono s23
          refine ⟨_, rfl, D2, _, rfl, .inl (SqL.of hp3), rfl, _, rfl, ?_⟩
          rw [List.length_map]
          match hpt : points ms with
          | [] =>
            rw [hpt] at fit1
            refine iteT ?_
            refine ⟨_, rfl, L, rfl, ⟨_, SqL.of x3.ls⟩, fun D4 hD4 => lc_bl (A := A) (y := y) (ms := ms) (fun m => decide (m.kind = 0)) x3 hD4 hz (fun _ => rfl) (fun i m H4 Q4 em s4 q4 => ?_) fun H4 s4 hl4 => ?_⟩
            · have sx := (x3.st i m em).mono s4
              refine ⟨_, rfl, qS_kind T sx ⟨rfl, ?_⟩⟩
              rw [← dec_vN (b := 0)] at q4
              exact q4
            · refine ⟨D4, _, rfl, SqL.of hl4, ?_⟩
              rw [map_all]
              have kk := k H4 (s23.trans s4)
              rw [fit1] at kk
              exact kk
          | [p] =>
            rw [hpt] at fit1 hp3
            have hmem := points_mem.mp (show p ∈ points ms by rw [hpt]; exact List.mem_singleton.mpr rfl)
            obtain ⟨mp, emp, _⟩ := hmem
            refine iteF ?_
            refine ⟨_, rfl, D2, _, rfl, .inl (SqL.of hp3), rfl, _, rfl, ?_⟩
            refine iteT ?_
            refine ⟨_, rfl, _, rfl, D2, _, _, _, rfl, rfl, SqL.of hp3, atI_nat (j := 0) rfl, ?_⟩
            refine ⟨L, y, ms, p, rfl, x3, hz, lt_of_some emp, fun H4 s4 => ?_⟩
            have kk := k H4 (s23.trans s4)
            rw [fit1] at kk
            exact kk
          | p :: q :: rest =>
            rw [hpt] at fit1 hp3
            refine iteF ?_
            refine ⟨_, rfl, D2, _, rfl, .inl (SqL.of hp3), rfl, _, rfl, ?_⟩
            rw [List.length_map]
            have : decide (V.int (((p :: q :: rest).length : Nat) : Int) = V.int 1) = false := decide_eq_false (by simp only [V.int.injEq, List.length_cons]; omega)
            rw [this]
            refine iteF ?_
            exact no s23 fit1
end
end LD
namespace LD
open PySem L2
theorem SAt.keep {A : Ad} {H H' : Hp} {z D : Addr} {a l : Bool → Addr} {m : MS} {acc : List V} (x : SAt A H z a l m) (hl : ∀ c, l c ≠ D) (hD : H D = some (.lst acc)) (k : ∀ b o, H b = some o → b ≠ D → H' b = some o) : SAt A H' z a l m := by
  obtain ⟨⟨dx, h⟩, h2⟩ := x
  refine ⟨⟨dx, k _ _ h (ne_of h hD (by intro z; cases z))⟩, fun c => ?_⟩
  obtain ⟨⟨dy, h3⟩, h4⟩ := h2 c
  exact ⟨⟨dy, k _ _ h3 (ne_of h3 hD (by intro z; cases z))⟩, k _ _ h4 (hl c)⟩
theorem int_vN {x : Int} (h : 0 ≤ x) : V.int x = vN x.toNat := by
  unfold vN
  rw [Int.toNat_of_nonneg h]
theorem getD_nonneg {r : List Int} (h : ∀ x ∈ r, 0 ≤ x) (j : Nat) : 0 ≤ r.getD j 0 := by
  rw [List.getD_eq_getElem?_getD]
  cases e : r[j]? with
  | none => exact Int.le_refl 0
  | some x => exact h x (List.mem_of_getElem? e)
theorem at_row {r : List Int} (h : ∀ x ∈ r, 0 ≤ x) {z : Int} {j : Nat} (e : z = (j : Int)) (hj : j < r.length) : atI (r.map V.int) z = some (vN (r.getD j 0).toNat) := by
  refine at_of e ?_
  rw [List.getElem?_map, List.getElem?_eq_getElem hj]
  show some (V.int r[j]) = _
  have : r.getD j 0 = r[j] := by rw [List.getD_eq_getElem?_getD, List.getElem?_eq_getElem hj]; rfl
  rw [this, int_vN (h _ (List.getElem_mem hj))]
theorem parse_len (r : List Int) : (parse r).length = r.length / 4 := by unfold parse; rw [List.length_map, List.length_range]
theorem parse_at {r : List Int} {i : Nat} {m : MS} (e : (parse r)[i]? = some m) : m = newS (r.getD (4 * i) 0).toNat (r.getD (4 * i + 1) 0).toNat (r.getD (4 * i + 2) 0).toNat (r.getD (4 * i + 3) 0).toNat := by
  have hi := lt_of_some e
  rw [parse_len] at hi
  unfold parse at e
  rw [List.getElem?_map, List.getElem?_range hi] at e
  exact (Option.some.inj e).symm
theorem rgc4 {n : Nat} (h4 : n % 4 = 0) (hn : n ≤ 1000000) : RgC 0 (n : Int) 4 (n / 4) := by
  have hs : Builtin.Range.rangeSize 0 (n : Int) 4 = ((n / 4 : Nat) : Int) := by
    unfold Builtin.Range.rangeSize
    rw [if_pos (by decide)]
    split <;> omega
  refine ⟨by decide, by decide, ?_, hs⟩
  have f : ∀ i : Int, 0 ≤ i → i < 2000000 → Builtin.Range.rangeFitsLong i = true := fun i h1 h2 => by
    unfold Builtin.Range.rangeFitsLong
    rw [Bool.and_eq_true, decide_eq_true_eq, decide_eq_true_eq]
    exact ⟨by omega, by omega⟩
  show (Builtin.Range.rangeFitsLong 0 && Builtin.Range.rangeFitsLong (n : Int) && Builtin.Range.rangeFitsLong 4 && Builtin.Range.rangeFitsLong (Builtin.Range.rangeSize 0 (n : Int) 4) && (Builtin.Range.rangeSize 0 (n : Int) 4 == 0 || (if (4 : Int) > 0 then Builtin.Range.rangeFitsLong ((n : Int) + (4 - 1)) else Builtin.Range.rangeFitsLong ((n : Int) + (4 + 1))))) = true
  rw [hs, if_pos (by decide), f 0 (by omega) (by omega), f n (by omega) (by omega), f 4 (by omega) (by omega), f _ (Int.natCast_nonneg _) (by omega), f ((n : Int) + (4 - 1)) (by omega) (by omega)]
  simp
section
variable {P : Program} {w : World} {K : PySem.W.Frag} {mg : Str → Option Value} {base : Heap} {A : Ad}
noncomputable def spF_read (K : PySem.W.Frag) (A : Ad) : Sp := fun vs H Q _ => ∃ (C : Addr) (r : List Int), vs = [.ref C] ∧ SqL K H C (r.map V.int) ∧ (∀ x ∈ r, 0 ≤ x) ∧ r.length % 4 = 0 ∧ r.length ≤ 1000000 ∧
  ∀ H' L y, Ls A H' L y (parse r) → Same H H' → H L = none → (∀ i c, i < (parse r).length → H (y.l i c) = none) → Q (.ref L) H'
theorem ok_F_read_steps (T : Txt K mg A) : ∃ fd, Binds K fd ["numbers"] [] ∧ FnOk P w K mg base CX0 5 A.F_read_steps fd ["numbers"] (spF_read K A) := by
  obtain ⟨fd, F, b⟩ := T.f_F_read_steps
  obtain ⟨_, b_S_init, G_S_init⟩ := ok_S_init (P := P) (w := w) (base := base) T
  refine ⟨fd, b, F.ok sc_F_read_steps (fun vs H Q E h => ?_) (fun cdv AA outer s H vs Q E hr h => ?_)⟩
  · obtain ⟨C, r, rfl, _⟩ := h
    rfl
  · obtain ⟨C, r, rfl, hC, h0, h4, hn, k⟩ := h
    have hrg : RgC 0 (((r.map V.int).length : Nat) : Int) 4 (r.length / 4) := by rw [List.length_map]; exact rgc4 h4 hn
    refine ⟨_, pss_one (ps_ret (pe_lc rfl sc_F_read_steps.nd (pi_range3 (by rfl) T.z_range (pa_cons pe_int (pa_cons (pe_callB (call_lenK (K := K) rfl) (by rfl) T.z_len PySem.boot_len (pa_cons (pv 0) pa_nil)) (pa_cons (pe_glob (v := .int (4)) (by rfl) T.g_NUMBERS_A_STEP ⟨_, rfl⟩) pa_nil)))) (blkOk_by (N := ["numbers", "at"]) (sc := defScope s_F_read_steps) (own := [("at", 1)]) (by decide +kernel)) (fun _ _ _ _ _ => (pg_name (i := 1) sc_F_read_steps.nd rfl (Or.inl rfl))) (fun _ _ _ _ _ => pts_nil) (fun _ _ _ _ _ => (pe_make T.mkS G_S_init (hr.mono (by decide)) (by rfl) T.gS b_S_init .nil pass0 (pa_cons (pe_ix (ix_listK (K := K) rfl) (pv 0) (pv 1) (fun _ _ => rfl)) (pa_cons (pe_ix (ix_listK (K := K) rfl) (pv 0) (pe_op op_add (pv 1) pe_int) (fun _ _ => rfl)) (pa_cons (pe_ix (ix_listK (K := K) rfl) (pv 0) (pe_op op_add (pv 1) pe_int) (fun _ _ => rfl)) (pa_cons (pe_ix (ix_listK (K := K) rfl) (pv 0) (pe_op op_add (pv 1) pe_int) (fun _ _ => rfl)) pa_nil)))))))), ?_⟩
    refine ⟨_, rfl, C, _, rfl, .inl hC, _, _, _, _, rfl, hrg, fun D hD => lc_rangeC (lo := 0) (c := 4) (n := r.length / 4) (fun i H' => ∃ y : Lay, Same H H' ∧ H' D = some (.lst (refs y i)) ∧ (∀ (j : Nat) (m : MS), j < i → (parse r)[j]? = some m → SAt A H' (y.s j) (y.a j) (y.l j) m) ∧
        (∀ j c k e, j < i → k < i → y.a j c = y.a k e → j = k ∧ c = e) ∧ (∀ j c k e, j < i → k < i → y.l j c = y.l k e → j = k ∧ c = e) ∧ ∀ j c, j < i → y.l j c ≠ D ∧ H (y.l j c) = none)
      ⟨⟨fun _ => 0, fun _ _ => 0, fun _ _ => 0⟩, Same.upd hD, upd_same, fun j m h => absurd h (Nat.not_lt_zero j), fun j c k e h => absurd h (Nat.not_lt_zero j), fun j c k e h => absurd h (Nat.not_lt_zero j), fun j c h => absurd h (Nat.not_lt_zero j)⟩ ?_ ?_⟩
    · rintro i H' hi ⟨y, s, hl, hst, hia, hil, hnl⟩
      have hC' := s.seq hC
      refine ⟨rfl, tyes ?_⟩
      refine ⟨_, rfl, _, rfl, C, _, _, _, rfl, rfl, hC', at_row h0 (j := 4 * i) (by omega) (by omega), ?_⟩
      refine ⟨_, rfl, _, rfl, _, _, rfl, rfl, C, _, _, _, rfl, rfl, hC', at_row h0 (j := 4 * i + 1) (by omega) (by omega), ?_⟩
      refine ⟨_, rfl, _, rfl, _, _, rfl, rfl, C, _, _, _, rfl, rfl, hC', at_row h0 (j := 4 * i + 2) (by omega) (by omega), ?_⟩
      refine ⟨_, rfl, _, rfl, _, _, rfl, rfl, C, _, _, _, rfl, rfl, hC', at_row h0 (j := 4 * i + 3) (by omega) (by omega), ?_⟩
      intro z dz nz ndz nez
      refine ⟨z, dz, _, _, _, _, rfl, upd_same, fun a l H2 sat fa fl na nl k1 => ⟨rfl, ?_⟩⟩
      have s2 : Same H' H2 := Same.made nz ndz k1
      have old : ∀ {b : Addr}, (upd (upd H' dz (.own z)) z (.ins A.CS dz [])) b = none → H' b = none := fun {b} e => by
        by_cases q : b = z
        · rw [q, upd_same] at e; cases e
        · rw [upd_ne q] at e
          by_cases q2 : b = dz
          · rw [q2, upd_same] at e; cases e
          · rw [upd_ne q2] at e; exact e
      have hD2 := s2 _ _ hl
      have lD : ∀ c, l c ≠ D := fun c => (ne_of_none hl (old (fl c))).symm
      have kD : ∀ {o : HO}, ∀ b u, H2 b = some u → b ≠ D → upd H2 D o b = some u := fun b u e n => by rw [upd_ne n]; exact e
      refine ⟨refs y i, hD2, by rw [refs_len, sizeLine_eq]; omega, ⟨fun j => if j = i then z else y.s j, fun j => if j = i then a else y.a j, fun j => if j = i then l else y.l j⟩, ?_, ?_, ?_, ?_, ?_, ?_⟩
      · exact fun b o e => by rw [upd_ne (ne_of_none e hD)]; exact s2 b o (s b o e)
      · rw [upd_same]
        congr 2
        unfold refs
        rw [List.range_succ, List.map_append]
        congr 1
        · apply List.map_congr_left
          intro j hj
          have hj := List.mem_range.mp hj
          show V.ref (y.s j) = V.ref (if j = i then z else y.s j)
          rw [if_neg (by omega)]
        · show [V.ref z] = [V.ref (if i = i then z else y.s i)]
          rw [if_pos rfl]
      · intro j m hj em
        show SAt A _ (if j = i then z else y.s j) (if j = i then a else y.a j) (if j = i then l else y.l j) m
        by_cases q : j = i
        · rw [if_pos q, if_pos q, if_pos q, parse_at em, q]
          exact sat.keep lD hD2 kD
        · rw [if_neg q, if_neg q, if_neg q]
          exact ((hst j m (by omega) em).mono s2).keep (fun c => (hnl j c (by omega)).1) hD2 kD
      · intro j c kk e hj hk q
        have q : (if j = i then a else y.a j) c = (if kk = i then a else y.a kk) e := q
        have tr : ∀ (j : Nat) (c : Bool), j < i → ∃ o, H' (y.a j c) = some o := fun j c hj => by
          have : j < (parse r).length := by rw [parse_len]; omega
          obtain ⟨⟨d, hh⟩, _⟩ := (hst j _ hj (List.getElem?_eq_getElem this)).tl c
          exact ⟨_, hh⟩
        by_cases q1 : j = i
        · by_cases q2 : kk = i
          · rw [if_pos q1, if_pos q2] at q
            refine ⟨q1.trans q2.symm, ?_⟩
            cases c <;> cases e <;> first | rfl | exact absurd q na | exact absurd q.symm na
          · rw [if_pos q1, if_neg q2] at q
            obtain ⟨o, ho⟩ := tr kk e (by omega)
            rw [← q, old (fa c)] at ho
            cases ho
        · by_cases q2 : kk = i
          · rw [if_neg q1, if_pos q2] at q
            obtain ⟨o, ho⟩ := tr j c (by omega)
            rw [q, old (fa e)] at ho
            cases ho
          · rw [if_neg q1, if_neg q2] at q
            exact hia j c kk e (by omega) (by omega) q
      · intro j c kk e hj hk q
        have q : (if j = i then l else y.l j) c = (if kk = i then l else y.l kk) e := q
        have tr : ∀ (j : Nat) (c : Bool), j < i → ∃ o, H' (y.l j c) = some o := fun j c hj => by
          have : j < (parse r).length := by rw [parse_len]; omega
          obtain ⟨_, hh⟩ := (hst j _ hj (List.getElem?_eq_getElem this)).tl c
          exact ⟨_, hh⟩
        by_cases q1 : j = i
        · by_cases q2 : kk = i
          · rw [if_pos q1, if_pos q2] at q
            refine ⟨q1.trans q2.symm, ?_⟩
            cases c <;> cases e <;> first | rfl | exact absurd q nl | exact absurd q.symm nl
          · rw [if_pos q1, if_neg q2] at q
            obtain ⟨o, ho⟩ := tr kk e (by omega)
            rw [← q, old (fl c)] at ho
            cases ho
        · by_cases q2 : kk = i
          · rw [if_neg q1, if_pos q2] at q
            obtain ⟨o, ho⟩ := tr j c (by omega)
            rw [q, old (fl e)] at ho
            cases ho
          · rw [if_neg q1, if_neg q2] at q
            exact hil j c kk e (by omega) (by omega) q
      · intro j c hj
        show (if j = i then l else y.l j) c ≠ D ∧ H ((if j = i then l else y.l j) c) = none
        by_cases q : j = i
        · rw [if_pos q]
          exact ⟨lD c, s.free (old (fl c))⟩
        · rw [if_neg q]
          exact hnl j c (by omega)
    · rintro H' ⟨y, s, hl, hst, hia, hil, hnl⟩
      have hp := parse_len r
      refine k H' D y ⟨by rw [hp]; exact hl, fun i m e => hst i m (by rw [← hp]; exact lt_of_some e) e, fun i c j e h1 h2 q => hia i c j e (by rw [← hp]; exact h1) (by rw [← hp]; exact h2) q, fun i c j e h1 h2 q => hil i c j e (by rw [← hp]; exact h1) (by rw [← hp]; exact h2) q, fun i c h1 => (hnl i c (by rw [← hp]; exact h1)).1⟩ s hD fun i c h1 => (hnl i c (by rw [← hp]; exact h1)).2
/-! ### what stands in a call -/
theorem at_drop {l x t : List Int} {n j : Nat} {v : Int} {z : Int} (e : l.drop n = x ++ t) (hx : x[j]? = some v) (hz : z = ((n + j : Nat) : Int)) : atI (l.map V.int) z = some (V.int v) := by
  refine at_of hz ?_
  rw [List.getElem?_map]
  have h1 : l[n + j]? = some v := by
    rw [← List.getElem?_drop, e, List.getElem?_append_left (lt_of_some hx)]
    exact hx
  rw [h1]
  rfl
noncomputable def spF_size (K : PySem.W.Frag) : Sp := fun vs H Q _ => ∃ (C : Addr) (l t : List Int) (n : Nat) (c : List (List Int)), vs = [.ref C, vN n] ∧ SqL K H C (l.map V.int) ∧ l.drop n = flat c ++ t ∧ CS c ∧ Q (vN (flat c).length) H
theorem ok_F_call_size (T : Txt K mg A) : ∃ fd, Binds K fd ["calls", "at"] [] ∧ FnOk P w K mg base CX0 1 A.F_call_size fd ["calls", "at"] (spF_size K) := by
  obtain ⟨fd, F, b⟩ := T.f_F_call_size
  refine ⟨fd, b, F.ok sc_F_call_size (fun vs H Q E h => ?_) (fun cdv AA outer s H vs Q E hr h => ?_)⟩
  · obtain ⟨C, l, t, n, c, rfl, _⟩ := h
    rfl
  · obtain ⟨C, l, t, n, c, rfl, hC, hl, ha, k⟩ := h
    refine ⟨_, pss_cons (ps_if (pt_cmpR op_eq (pe_ix (ix_listK (K := K) rfl) (pv 0) (pv 1) (fun _ _ => rfl)) (pe_glob (v := .int (0)) (by rfl) T.g_START ⟨_, rfl⟩) (nomark _)) (pss_one (ps_ret (pe_op op_add pe_int (pe_ix (ix_listK (K := K) rfl) (pv 0) (pe_op op_add (pv 1) pe_int) (fun _ _ => rfl))))) pss_nil) (pss_one (ps_ret (pe_ix (ix_tupK (K := K) rfl) (pe_glob (v := .ref A.sizes) (by rfl) T.g_sizes rfl) (pe_ix (ix_listK (K := K) rfl) (pv 0) (pv 1) (fun _ _ => rfl)) (fun _ _ => rfl)))), ?_⟩
    have hsz : (∃ r, c = [[0], r]) ∨ ∃ (p s : Nat) (x : List Int), flat c = (p : Int) :: x ∧ x.length + 1 = s ∧ p ≠ 0 ∧ ([V.non, .int 1, .int 5, .int 2, .int 1, .int 1, .int 2])[p]? = some (.int s) := by
      cases ha with
      | start r => exact .inl ⟨r, rfl⟩
      | next => exact .inr ⟨1, 1, [], rfl, rfl, by decide, rfl⟩
      | answer i w' k' z => exact .inr ⟨2, 5, [i, w', k', z], rfl, rfl, by decide, rfl⟩
      | tick t' => exact .inr ⟨3, 2, [t'], rfl, rfl, by decide, rfl⟩
      | halt => exact .inr ⟨4, 1, [], rfl, rfl, by decide, rfl⟩
      | how => exact .inr ⟨5, 1, [], rfl, rfl, by decide, rfl⟩
      | step i => exact .inr ⟨6, 2, [i], rfl, rfl, by decide, rfl⟩
    rcases hsz with ⟨r, rfl⟩ | ⟨p, s, x, e, hs, hp, hp2⟩
    · have hl : l.drop n = (0 :: (r.length : Int) :: r) ++ t := hl
      refine ⟨_, rfl, _, rfl, C, _, _, _, rfl, rfl, hC, at_drop hl (j := 0) (v := 0) rfl rfl, rfl, _, rfl, ?_⟩
      refine iteT ?_
      refine ⟨_, rfl, _, rfl, _, _, rfl, rfl, C, _, _, _, rfl, rfl, hC, at_drop hl (j := 1) (v := (r.length : Int)) rfl (by omega), _, _, rfl, rfl, ?_⟩
      have e : vN (flat [[0], r]).length = V.int (2 + (r.length : Int)) := by
        show V.int (((r.length + 1 + 1 : Nat) : Int)) = _
        congr 1
        omega
      rw [e] at k
      exact k
    · have h0 : atI (l.map V.int) (n : Int) = some (V.int p) := at_drop hl (j := 0) (v := p) (by rw [e]; rfl) rfl
      refine ⟨_, rfl, _, rfl, C, _, _, _, rfl, rfl, hC, h0, rfl, _, rfl, ?_⟩
      have hne : decide (V.int (p : Int) = V.int 0) = false := decide_eq_false (by simp only [V.int.injEq]; omega)
      rw [hne]
      refine iteF ?_
      refine ⟨_, rfl, _, rfl, C, _, _, _, rfl, rfl, hC, h0, A.sizes, _, _, _, rfl, rfl, T.t_sizes H, atI_nat hp2, ?_⟩
      rw [e, List.length_cons, hs] at k
      exact k
/-! ### the desk -/
noncomputable def DAt (A : Ad) (H : Hp) (dd O : Addr) (o : Option MB) : Prop := ∃ (dx : Addr) (v : V), H dd = some (.ins A.CD dx (df v)) ∧ match o with
  | none => v = .non
  | some b => ∃ p L y, v = .ref p ∧ BAt A H p L y b ∧ L ≠ O ∧ ∀ i c, i < b.steps.length → y.l i c ≠ O
/-- what the caller holds is as it was -/
structure KO (O : Addr) (H H' : Hp) : Prop where
  out : H' O = H O
  frz : ∀ b o u, H b = some (.frz o u) → H' b = some (.frz o u)
theorem KO.of {O : Addr} {H H' : Hp} {zs : List V} (hO : H O = some (.lst zs)) (s : Same H H') : KO O H H' := ⟨by rw [s _ _ hO, hO], fun b o u e => s _ _ e⟩
theorem KO.trans {O : Addr} {H H1 H2 : Hp} (a : KO O H H1) (b : KO O H1 H2) : KO O H H2 := ⟨b.out.trans a.out, fun c o u e => b.frz c o u (a.frz c o u e)⟩
theorem BAt.frs {A : Ad} {H : Hp} {p L b : Addr} {y : Lay} {m : MB} {o : HO} (x : BAt A H p L y m) (h : H b = some o) (hn : nf o ≠ 3 ∧ nf o ≠ 4) (hl : ∀ i c, i < m.steps.length → b ≠ y.l i c) : b ≠ p ∧ ∀ i c, i < m.steps.length → b ≠ y.a i c ∧ b ≠ y.l i c := by
  obtain ⟨⟨dx, hp⟩, h2⟩ := x
  refine ⟨ne_nf h hp hn.1, fun i c hi => ⟨?_, hl i c hi⟩⟩
  obtain ⟨⟨dy, ha⟩, _⟩ := (h2.st i _ (List.getElem?_eq_getElem hi)).tl c
  exact ne_nf h ha hn.2
theorem BAt.lne {A : Ad} {H : Hp} {p L b : Addr} {y : Lay} {m : MB} {o : HO} (x : BAt A H p L y m) (h : H b = some o) (hn : ∀ zs, o ≠ .lst zs) : ∀ i c, i < m.steps.length → b ≠ y.l i c := fun i c hi => by
  obtain ⟨_, hl⟩ := (x.ls.st i _ (List.getElem?_eq_getElem hi)).tl c
  exact ne_of h hl (hn _)
theorem KO.fr {A : Ad} {H H' : Hp} {p L O : Addr} {y : Lay} {m : MB} {zs : List V} (x : BAt A H p L y m) (f : Fr p y m.steps.length H H') (hO : H O = some (.lst zs)) (hl : ∀ i c, i < m.steps.length → y.l i c ≠ O) : KO O H H' := by
  refine ⟨?_, fun b o u e => ?_⟩
  · obtain ⟨h1, h2⟩ := x.frs hO ⟨by show 0 ≠ 3; decide, by show 0 ≠ 4; decide⟩ fun i c hi z => hl i c hi z.symm
    rw [f _ _ hO h1 h2, hO]
  · obtain ⟨h1, h2⟩ := x.frs e ⟨by show 0 ≠ 3; decide, by show 0 ≠ 4; decide⟩ (x.lne e fun zs z => by cases z)
    exact f _ _ e h1 h2
theorem DAt.fr {A : Ad} {H H' : Hp} {p L O dd dx : Addr} {y : Lay} {m m' : MB} (x : BAt A H p L y m) (f : Fr p y m.steps.length H H') (hd : H dd = some (.ins A.CD dx (df (.ref p)))) (hL : L ≠ O) (hl : ∀ i c, i < m.steps.length → y.l i c ≠ O) (x' : BAt A H' p L y m') (he : m'.steps.length = m.steps.length) : DAt A H' dd O (some m') := by
  obtain ⟨h1, h2⟩ := x.frs hd ⟨by show 1 ≠ 3; decide, by show 1 ≠ 4; decide⟩ (x.lne hd fun zs z => by cases z)
  exact ⟨dx, _, f _ _ hd h1 h2, p, L, y, rfl, x', hL, fun i c hi => hl i c (by rw [← he]; exact hi)⟩
theorem DAt.mono {A : Ad} {H H' : Hp} {dd O : Addr} {o : Option MB} (h : DAt A H dd O o) (s : Same H H') : DAt A H' dd O o := by
  obtain ⟨dx, v, h1, h2⟩ := h
  refine ⟨dx, v, s _ _ h1, ?_⟩
  cases o with
  | none => exact h2
  | some b =>
    obtain ⟨p, L, y, e, x, hl⟩ := h2
    exact ⟨p, L, y, e, x.mono s, hl⟩
noncomputable def spD_init (A : Ad) : Sp := fun vs H Q _ => ∃ (p dx : Addr), vs = [.ref p] ∧ H p = some (.ins A.CD dx []) ∧ ∀ H', H' p = some (.ins A.CD dx (df .non)) → Kp p H H' → Q .non H'
theorem ok_D_init (T : Txt K mg A) : ∃ fd, Binds K fd ["self"] [] ∧ FnOk P w K mg base CX0 1 A.D_init fd ["self"] (spD_init A) := by
  obtain ⟨fd, F, b⟩ := T.f_D_init
  refine ⟨fd, b, F.ok sc_D_init (fun vs H Q E h => ?_) (fun cdv AA outer s H vs Q E hr h => ?_)⟩
  · obtain ⟨p, dx, rfl, _⟩ := h
    rfl
  · obtain ⟨p, dx, rfl, hp, k⟩ := h
    refine ⟨_, pss_one (ps_fldK (K := K) rfl (pv 0) pe_non rfl), ?_⟩
    refine ⟨_, rfl, p, A.CD, dx, _, rfl, hp, T.clD, T.nD_business, by decide, ?_⟩
    exact k _ upd_same fun b o e hb => by rw [upd_ne hb]; exact e
noncomputable def spD_start (K : PySem.W.Frag) (A : Ad) : Sp := fun vs H Q _ => ∃ (dd O C : Addr) (o : Option MB) (r : List Int) (zs : List V), vs = [.ref dd, .ref C] ∧ DAt A H dd O o ∧ H O = some (.lst zs) ∧ SqL K H C (r.map V.int) ∧ (∀ x ∈ r, 0 ≤ x) ∧ r.length % 4 = 0 ∧ r.length ≤ 1000000 ∧
  ∀ H', DAt A H' dd O (startM o r).1 → Kp dd H H' → Q (.int (startM o r).2) H'
theorem ok_D_start (T : Txt K mg A) : ∃ fd, Binds K fd ["self", "numbers"] [] ∧ FnOk P w K mg base CX0 6 A.D_start fd ["self", "numbers"] (spD_start K A) := by
  obtain ⟨fd, F, b⟩ := T.f_D_start
  obtain ⟨_, b_F_read_steps, G_F_read_steps⟩ := ok_F_read_steps (P := P) (w := w) (base := base) T
  obtain ⟨_, b_F_are_steps_fit, G_F_are_steps_fit⟩ := ok_F_are_steps_fit (P := P) (w := w) (base := base) T
  obtain ⟨_, b_B_init, G_B_init⟩ := ok_B_init (P := P) (w := w) (base := base) T
  refine ⟨fd, b, F.ok sc_D_start (fun vs H Q E h => ?_) (fun cdv AA outer s H vs Q E hr h => ?_)⟩
  · obtain ⟨dd, O, C, o, r, zs, rfl, _⟩ := h
    rfl
  · obtain ⟨dd, O, C, o, r, zs, rfl, hd, hO, hC, h0, h4, hn, k⟩ := h
    have hz : (parse r).length < sizeLine := by rw [parse_len, sizeLine_eq]; omega
    refine ⟨_, pss_cons (ps_set (i := 2) sc_D_start.nd rfl (Or.inl rfl) (pe_call G_F_read_steps (hr.mono (by decide)) (by rfl) T.g_F_read_steps T.k_F_read_steps b_F_read_steps .nil pass0 (pa_cons (pv 1) pa_nil))) (pss_cons (ps_if (pt_not (pt_val (pe_call G_F_are_steps_fit (hr.mono (by decide)) (by rfl) T.g_F_are_steps_fit T.k_F_are_steps_fit b_F_are_steps_fit .nil pass0 (pa_cons (pv 2) pa_nil)))) (pss_one (ps_ret (pe_glob (v := .int (-22)) (by rfl) T.g_WRONG ⟨_, rfl⟩))) pss_nil) (pss_cons (ps_fldK (K := K) rfl (pv 0) (pe_make T.mkB G_B_init (hr.mono (by decide)) (by rfl) T.gB b_B_init .nil pass0 (pa_cons (pv 2) pa_nil)) rfl) (pss_one (ps_ret pe_int)))), ?_⟩
    refine ⟨_, rfl, C, r, rfl, hC, h0, h4, hn, fun H1 L y x1 s1 fL f1 => ?_⟩
    refine ⟨_, rfl, L, y, _, rfl, x1, hz, fun H2 s2 => ⟨_, rfl, ?_⟩⟩
    have s12 := s1.trans s2
    unfold startM at k
    refine ite2 (fun e => ?_) (fun e => ?_)
    · have e : ¬ fit (parse r) = true := by simpa using e
      rw [if_neg e] at k
      exact k H2 (hd.mono s12) (Kp.of s12)
    · have e : fit (parse r) = true := by simpa using e
      rw [if_pos e] at k
      refine ⟨_, rfl, ?_⟩
      intro p dp np ndp nep
      refine ⟨p, dp, L, rfl, upd_same, fun H3 hp3 k3 => ⟨rfl, ?_⟩⟩
      have s3 : Same H2 H3 := Same.made np ndp k3
      have s13 := s12.trans s3
      have x3 := (x1.mono s2).mono s3
      obtain ⟨dx, v, hd1, _⟩ := hd
      have hd3 := s13 _ _ hd1
      refine ⟨_, rfl, dd, A.CD, dx, _, rfl, hd3, T.clD, T.nD_business, (by show 1 < 1000; decide), ?_⟩
      refine k _ ⟨dx, .ref p, upd_same, p, L, y, rfl, ⟨⟨dp, ?_⟩, x3.keep hd3 (.inr rfl) fun c o e n => by rw [upd_ne n]; exact e⟩, fun z => ?_, fun i c hi z => ?_⟩ fun c o e n => by rw [upd_ne n]; exact s13 c o e
      · rw [upd_ne (ne_nf hp3 hd3 (by show 3 ≠ 1; decide))]
        exact hp3
      · rw [z, hO] at fL
        cases fL
      · have := f1 i c hi
        rw [z, hO] at this
        cases this
theorem qD_business {T : Txt K mg A} {H : Hp} {dd dx : Addr} {v : V} {Q : V → Prop} (T : Txt K mg A) (h : H dd = some (.ins A.CD dx (df v))) (k : Q v) : ∃ a' C' dx' fs' v', V.ref dd = .ref a' ∧ H a' = some (.ins C' dx' fs') ∧ Cls K C' ∧ NoAttr K C' "business" ∧ fs'.lookup ("business" : Str) = some v' ∧ Q v' := rfl_ h T.clD T.nD_business rfl k
theorem cD {H : Hp} {dd dx : Addr} {v : V} {m : Str} {R : Prop} (h : H dd = some (.ins A.CD dx (df v))) (n : (df v).lookup m = none) (k : R) : ∃ a' dx' fs', V.ref dd = .ref a' ∧ H a' = some (.ins A.CD dx' fs') ∧ fs'.lookup m = none ∧ R := ⟨dd, dx, _, rfl, h, n, k⟩
/-- if xs[0] == v, xs in slot 1 -/
theorem test0 {C : Addr} {xs : List V} {q v : Int} {t u : TS} {D : Ends} {σ : St} {H : Hp} (h1 : σ[1]? = some (some (.ref C))) (hC : SqL K H C xs) (h0 : atI xs 0 = some (.int q)) (ht : q = v → t { D with nx := u D } σ H) (hu : q ≠ v → u D σ H) :
    tSeq (tIfS (tTest (tOp rEq (tOp (rIxL K) (tVar 1) (tC (.int 0))) (tC (.int v)))) t tNext) u D σ H := by
  refine ⟨_, h1, C, _, _, _, rfl, rfl, hC, h0, rfl, _, rfl, ?_⟩
  refine ite2 (fun e => ht ?_) fun e => hu fun z => e (decide_eq_true (by rw [z]))
  have e := of_decide_eq_true e
  simpa using e
/-- a call that is answered by a number alone, the start apart -/
inductive NumCall (b : MB) : List Int → MB → Int → Prop
  | answer (i w k z : Int) : 0 ≤ i → 0 ≤ w → 0 ≤ k → 0 ≤ z → NumCall b [2, i, w, k, z] (b.answer i.toNat w.toNat k.toNat z.toNat).1 (b.answer i.toNat w.toNat k.toNat z.toNat).2
  | tick (t : Int) : 0 ≤ t → NumCall b [3, t] (b.tick t.toNat).1 (b.tick t.toNat).2
  | halt : NumCall b [4] b.halt.1 b.halt.2
  | how : NumCall b [5] b (b.way : Int)
theorem NumCall.len {b b' : MB} {c : List Int} {v : Int} (h : NumCall b c b' v) : b'.steps.length = b.steps.length := by
  cases h with
  | answer i w k z _ _ _ _ => exact answer_len ..
  | tick t _ => exact tick_len ..
  | halt => exact halt_len ..
  | how => rfl
noncomputable def spD_number (K : PySem.W.Frag) (A : Ad) : Sp := fun vs H Q _ => ∃ (dd dx C p L : Addr) (y : Lay) (b b' : MB) (c : List Int) (v : Int), vs = [.ref dd, .ref C] ∧ H dd = some (.ins A.CD dx (df (.ref p))) ∧ BAt A H p L y b ∧ HB b ∧ SqL K H C (c.map V.int) ∧ NumCall b c b' v ∧
  ∀ H', BAt A H' p L y b' → Fr p y b.steps.length H H' → Q (.int v) H'
theorem ok_D_number_for (T : Txt K mg A) : ∃ fd, Binds K fd ["self", "call"] [] ∧ FnOk P w K mg base CX0 5 A.D_number_for fd ["self", "call"] (spD_number K A) := by
  obtain ⟨fd, F, b⟩ := T.f_D_number_for
  obtain ⟨_, b_B_take_answer, G_B_take_answer⟩ := ok_B_take_answer (P := P) (w := w) (base := base) T
  obtain ⟨_, b_B_tick, G_B_tick⟩ := ok_B_tick (P := P) (w := w) (base := base) T
  obtain ⟨_, b_B_turn_back, G_B_turn_back⟩ := ok_B_turn_back (P := P) (w := w) (base := base) T
  refine ⟨fd, b, F.ok sc_D_number_for (fun vs H Q E h => ?_) (fun cdv AA outer s H vs Q E hr h => ?_)⟩
  · obtain ⟨dd, dx, C, p, L, y, b, b', c, v, rfl, _⟩ := h
    rfl
  · obtain ⟨dd, dx, C, p, L, y, b, b', c, v, rfl, hd, x, hb, hC, hc, k⟩ := h
    obtain ⟨q, l, rfl⟩ : ∃ q l, c = q :: l := by cases hc <;> exact ⟨_, _, rfl⟩
    have hat : atI ((q :: l).map V.int) 0 = some (V.int q) := atI_nat (j := 0) rfl
    refine ⟨_, pss_cons (ps_if (pt_cmpR op_eq (pe_ix (ix_listK (K := K) rfl) (pv 1) pe_int (fun _ _ => rfl)) (pe_glob (v := .int (2)) (by rfl) T.g_ANSWER ⟨_, rfl⟩) (nomark _)) (pss_one (ps_ret (pe_meth (pe_fldK (K := K) rfl (pv 0) rfl) T.clB T.m_B_take_answer G_B_take_answer (hr.mono (by decide)) b_B_take_answer .nil pass0 (pa_cons (pe_ix (ix_listK (K := K) rfl) (pv 1) pe_int (fun _ _ => rfl)) (pa_cons (pe_ix (ix_listK (K := K) rfl) (pv 1) pe_int (fun _ _ => rfl)) (pa_cons (pe_ix (ix_listK (K := K) rfl) (pv 1) pe_int (fun _ _ => rfl)) (pa_cons (pe_ix (ix_listK (K := K) rfl) (pv 1) pe_int (fun _ _ => rfl)) pa_nil))))))) pss_nil) (pss_cons (ps_if (pt_cmpR op_eq (pe_ix (ix_listK (K := K) rfl) (pv 1) pe_int (fun _ _ => rfl)) (pe_glob (v := .int (3)) (by rfl) T.g_TICK ⟨_, rfl⟩) (nomark _)) (pss_one (ps_ret (pe_meth (pe_fldK (K := K) rfl (pv 0) rfl) T.clB T.m_B_tick G_B_tick (hr.mono (by decide)) b_B_tick .nil pass0 (pa_cons (pe_ix (ix_listK (K := K) rfl) (pv 1) pe_int (fun _ _ => rfl)) pa_nil)))) pss_nil) (pss_cons (ps_if (pt_cmpR op_eq (pe_ix (ix_listK (K := K) rfl) (pv 1) pe_int (fun _ _ => rfl)) (pe_glob (v := .int (4)) (by rfl) T.g_STOP ⟨_, rfl⟩) (nomark _)) (pss_one (ps_ret (pe_meth0 (pe_fldK (K := K) rfl (pv 0) rfl) T.clB T.m_B_turn_back G_B_turn_back (hr.mono (by decide)) b_B_turn_back .nil pass0))) pss_nil) (pss_one (ps_ret (pe_fldK (K := K) rfl (pe_fldK (K := K) rfl (pv 0) rfl) rfl))))), ?_⟩
    refine test0 rfl hC hat (fun e => ?_) fun e2 => test0 rfl hC hat (fun e => ?_) fun e3 => test0 rfl hC hat (fun e => ?_) fun e4 => ?_
    · subst e
      cases hc with
      | answer i w' k' z hi hw hk hz =>
        have a1 : atI (([2, i, w', k', z] : List Int).map V.int) 1 = some (vN i.toNat) := by rw [← int_vN hi]; exact atI_nat (j := 1) rfl
        have a2 : atI (([2, i, w', k', z] : List Int).map V.int) 2 = some (vN w'.toNat) := by rw [← int_vN hw]; exact atI_nat (j := 2) rfl
        have a3 : atI (([2, i, w', k', z] : List Int).map V.int) 3 = some (vN k'.toNat) := by rw [← int_vN hk]; exact atI_nat (j := 3) rfl
        have a4 : atI (([2, i, w', k', z] : List Int).map V.int) 4 = some (vN z.toNat) := by rw [← int_vN hz]; exact atI_nat (j := 4) rfl
        refine ⟨_, rfl, qD_business (T := T) T hd (cB x (fun _ _ _ => rfl) ?_)⟩
        refine ⟨_, rfl, C, _, _, _, rfl, rfl, hC, a1, _, rfl, C, _, _, _, rfl, rfl, hC, a2, _, rfl, C, _, _, _, rfl, rfl, hC, a3, _, rfl, C, _, _, _, rfl, rfl, hC, a4, ?_⟩
        exact ⟨p, L, y, b, _, _, _, _, rfl, x, hb, k⟩
    · subst e
      cases hc with
      | tick t ht =>
        have a1 : atI (([3, t] : List Int).map V.int) 1 = some (vN t.toNat) := by rw [← int_vN ht]; exact atI_nat (j := 1) rfl
        refine ⟨_, rfl, qD_business (T := T) T hd (cB x (fun _ _ _ => rfl) ?_)⟩
        refine ⟨_, rfl, C, _, _, _, rfl, rfl, hC, a1, ?_⟩
        exact ⟨p, L, y, b, _, rfl, x, hb, k⟩
    · subst e
      cases hc with
      | halt => exact ⟨_, rfl, qD_business (T := T) T hd (cB x (fun _ _ _ => rfl) ⟨p, L, y, b, rfl, x, hb, k⟩)⟩
    · cases hc with
      | answer i w' k' z hi hw hk hz => exact absurd rfl e2
      | tick t ht => exact absurd rfl e3
      | halt => exact absurd rfl e4
      | how => exact ⟨_, rfl, qD_business (T := T) T hd (qB_way T x (k H x (Fr.of (Same.refl _))))⟩
theorem HB.of {b : MB} {n : Nat} (h : BOk b) (hl : Len b n) (h32 : b.steps.length ≤ 32) (hn : n < 3000) : HB b :=
  ⟨h32, h.good.tri1, fun m hm => by have := hl m hm; rw [sizeLine_eq]; omega⟩
noncomputable def spD_take (K : PySem.W.Frag) (A : Ad) : Sp := fun vs H Q _ => ∃ (dd O C : Addr) (o : Option MB) (n : Nat) (c : List (List Int)) (zs : List V), vs = [.ref dd, .ref C] ∧ DAt A H dd O o ∧ H O = some (.lst zs) ∧ SqL K H C ((flat c).map V.int) ∧ (∀ x ∈ flat c, 0 ≤ x) ∧ (flat c).length ≤ 16000 ∧ COk o n c ∧
  ∀ H' r, DAt A H' dd O (dcall o c).1 → KO O H H' → r ≠ O → H' r = some (.lst ((dcall o c).2.map V.int)) → Q (.ref r) H'
theorem ok_D_take_call (T : Txt K mg A) : ∃ fd, Binds K fd ["self", "call"] [] ∧ FnOk P w K mg base CX0 7 A.D_take_call fd ["self", "call"] (spD_take K A) := by
  obtain ⟨fd, F, b⟩ := T.f_D_take_call
  obtain ⟨_, b_D_start, G_D_start⟩ := ok_D_start (P := P) (w := w) (base := base) T
  obtain ⟨_, b_B_tell_next, G_B_tell_next⟩ := ok_B_tell_next (P := P) (w := w) (base := base) T
  obtain ⟨_, b_B_tell_step, G_B_tell_step⟩ := ok_B_tell_step (P := P) (w := w) (base := base) T
  obtain ⟨_, b_D_number_for, G_D_number_for⟩ := ok_D_number_for (P := P) (w := w) (base := base) T
  refine ⟨fd, b, F.ok sc_D_take_call (fun vs H Q E h => ?_) (fun cdv AA outer s H vs Q E hr h => ?_)⟩
  · obtain ⟨dd, O, C, o, n, c, zs, rfl, _⟩ := h
    rfl
  · obtain ⟨dd, O, C, o, n, c, zs, rfl, hd, hO, hC, h0, hl, hc, k⟩ := h
    have two : 2 ≤ sizeLine := by rw [sizeLine_eq]; decide
    have biz : (∀ r, c ≠ [[0], r]) → ∃ b dx p L y, o = some b ∧ H dd = some (.ins A.CD dx (df (.ref p))) ∧ BAt A H p L y b ∧ HB b ∧ L ≠ O ∧ ∀ i c, i < b.steps.length → y.l i c ≠ O := fun hn => by
      cases o with
      | none => obtain ⟨r, e⟩ := hc.first rfl; exact absurd e (hn r)
      | some b =>
        obtain ⟨h1, h2, h3⟩ := hc.biz b rfl
        obtain ⟨dx, v, hd1, p, L, y, rfl, x, hLO, hO2⟩ := hd
        exact ⟨b, dx, p, L, y, rfl, hd1, x, HB.of h1 h2 h3 hc.few, hLO, hO2⟩
    have hk : ∃ (q : Int) (l : List Int), flat c = q :: l ∧ (q = 0 → ∃ r, c = [[0], r]) ∧ (q = 1 → c = [[1]]) ∧ (q = 6 → ∃ i, c = [[6, i]]) ∧ (q ≠ 0 → q ≠ 1 → q ≠ 6 → c = [q :: l] ∧ ∀ b, ∃ b' v, NumCall b (q :: l) b' v ∧ dcall (some b) c = (some b', [0, v])) := by
      cases hc.shape with
      | start r => exact ⟨0, _, rfl, fun _ => ⟨r, rfl⟩, (fun z => absurd z (by decide)), (fun z => absurd z (by decide)), fun z => absurd rfl z⟩
      | next => exact ⟨1, _, rfl, (fun z => absurd z (by decide)), fun _ => rfl, (fun z => absurd z (by decide)), fun _ z => absurd rfl z⟩
      | step i => exact ⟨6, _, rfl, (fun z => absurd z (by decide)), (fun z => absurd z (by decide)), fun _ => ⟨i, rfl⟩, fun _ _ z => absurd rfl z⟩
      | answer i w' k' z => exact ⟨2, _, rfl, (fun z => absurd z (by decide)), (fun z => absurd z (by decide)), (fun z => absurd z (by decide)), fun _ _ _ => ⟨rfl, fun b => ⟨_, _, .answer i w' k' z (h0 i (by simp [flat])) (h0 w' (by simp [flat])) (h0 k' (by simp [flat])) (h0 z (by simp [flat])), rfl⟩⟩⟩
      | tick t => exact ⟨3, _, rfl, (fun z => absurd z (by decide)), (fun z => absurd z (by decide)), (fun z => absurd z (by decide)), fun _ _ _ => ⟨rfl, fun b => ⟨_, _, .tick t (h0 t (by simp [flat])), rfl⟩⟩⟩
      | halt => exact ⟨4, _, rfl, (fun z => absurd z (by decide)), (fun z => absurd z (by decide)), (fun z => absurd z (by decide)), fun _ _ _ => ⟨rfl, fun b => ⟨_, _, .halt, rfl⟩⟩⟩
      | how => exact ⟨5, _, rfl, (fun z => absurd z (by decide)), (fun z => absurd z (by decide)), (fun z => absurd z (by decide)), fun _ _ _ => ⟨rfl, fun b => ⟨_, _, .how, rfl⟩⟩⟩
    obtain ⟨q, l, ef, k0, k1, k6, kn⟩ := hk
    have hat : atI ((flat c).map V.int) 0 = some (V.int q) := by rw [ef]; exact atI_nat (j := 0) rfl
    refine ⟨_, pss_cons (ps_if (pt_cmpR op_eq (pe_ix (ix_listK (K := K) rfl) (pv 1) pe_int (fun _ _ => rfl)) (pe_glob (v := .int (0)) (by rfl) T.g_START ⟨_, rfl⟩) (nomark _)) (pss_one (ps_ret (pe_lst (pa_cons (pe_glob (v := .int (0)) (by rfl) T.g_NUMBER_FORM ⟨_, rfl⟩) (pa_cons (pe_meth (pv 0) T.clD T.m_D_start G_D_start (hr.mono (by decide)) b_D_start .nil pass0 (pa_cons (pe_slice (sl_listK (K := K) rfl) (pv 1) (po_some pe_int) po_none) pa_nil)) pa_nil))))) pss_nil) (pss_cons (ps_if (pt_cmpR op_eq (pe_ix (ix_listK (K := K) rfl) (pv 1) pe_int (fun _ _ => rfl)) (pe_glob (v := .int (1)) (by rfl) T.g_NEXT ⟨_, rfl⟩) (nomark _)) (pss_one (ps_ret (pe_meth0 (pe_fldK (K := K) rfl (pv 0) rfl) T.clB T.m_B_tell_next G_B_tell_next (hr.mono (by decide)) b_B_tell_next .nil pass0))) pss_nil) (pss_cons (ps_if (pt_cmpR op_eq (pe_ix (ix_listK (K := K) rfl) (pv 1) pe_int (fun _ _ => rfl)) (pe_glob (v := .int (6)) (by rfl) T.g_STEP ⟨_, rfl⟩) (nomark _)) (pss_one (ps_ret (pe_meth (pe_fldK (K := K) rfl (pv 0) rfl) T.clB T.m_B_tell_step G_B_tell_step (hr.mono (by decide)) b_B_tell_step .nil pass0 (pa_cons (pe_ix (ix_listK (K := K) rfl) (pv 1) pe_int (fun _ _ => rfl)) pa_nil)))) pss_nil) (pss_one (ps_ret (pe_lst (pa_cons (pe_glob (v := .int (0)) (by rfl) T.g_NUMBER_FORM ⟨_, rfl⟩) (pa_cons (pe_meth (pv 0) T.clD T.m_D_number_for G_D_number_for (hr.mono (by decide)) b_D_number_for .nil pass0 (pa_cons (pv 1) pa_nil)) pa_nil))))))), ?_⟩
    refine test0 rfl hC hat (fun e => ?_) fun e0 => test0 rfl hC hat (fun e => ?_) fun e1 => test0 rfl hC hat (fun e => ?_) fun e6 => ?_
    · obtain ⟨r, rfl⟩ := k0 e
      clear hat ef k0 k1 k6 kn
      have hcut : cutV ((flat [[0], r]).map V.int) (some 2) none = r.map V.int := by
        unfold cutV
        have e1 : HT.sIx ((flat [[0], r]).map V.int).length 0 (some 2) = 2 := by
          show HT.sIx ((0 :: (r.length : Int) :: r).map V.int).length 0 (some 2) = 2
          rw [List.length_map]
          simp [HT.sIx]
        have e2 : HT.sIx ((flat [[0], r]).map V.int).length ((flat [[0], r]).map V.int).length none = ((flat [[0], r]).map V.int).length := by simp [HT.sIx]
        rw [e1, e2]
        show (((0 :: (r.length : Int) :: r).map V.int).drop 2).take (((0 :: (r.length : Int) :: r).map V.int).length - 2) = _
        show (r.map V.int).take _ = _
        rw [List.take_of_length_le]
        rw [List.length_map, List.length_map]
        simp
      obtain ⟨dx, v, hd1, hd2⟩ := id hd
      refine ⟨_, rfl, cD hd1 rfl ⟨_, rfl, _, rfl, C, _, rfl, hC, fun q hq => ?_⟩⟩
      rw [hcut]
      have sq : Same H (upd H q (.lst (r.map V.int))) := Same.upd hq
      refine ⟨dd, O, q, o, r, zs, rfl, hd.mono sq, sq _ _ hO, SqL.of upd_same, fun z hz => h0 z ?_, asked_row hc.asked, ?_, fun H1 hd3 k1 => ?_⟩
      · show z ∈ (0 :: (r.length : Int) :: r)
        exact List.mem_cons_of_mem _ (List.mem_cons_of_mem _ hz)
      · have : (0 :: (r.length : Int) :: r).length ≤ 16000 := hl
        rw [List.length_cons, List.length_cons] at this
        omega
      · refine ⟨two, fun a ha => ?_⟩
        have hO1 : H1 O = some (.lst zs) := k1 _ _ (sq _ _ hO) (ne_of hO hd1 (by intro z; cases z))
        have ko : KO O H H1 := ⟨hO1.trans hO.symm, fun b u w e => k1 _ _ (sq _ _ e) (ne_of e hd1 (by intro z; cases z))⟩
        exact k _ a (hd3.mono (Same.upd ha)) (ko.trans (KO.of hO1 (Same.upd ha))) (ne_of_none hO1 ha).symm upd_same
    · obtain rfl := k1 e
      obtain ⟨b, dx, p, L, y, rfl, hd1, x, hB, hLO, hO2⟩ := biz fun r z => by cases z
      refine ⟨_, rfl, qD_business (T := T) T hd1 (cB x (fun _ _ _ => rfl) ⟨p, L, y, b, rfl, x, hB, fun H1 r x1 hr hr0 f1 => ?_⟩)⟩
      exact k H1 r (DAt.fr x f1 hd1 hLO hO2 x1 (next_len b)) (KO.fr x f1 hO hO2) (ne_of_none hO hr0).symm hr
    · obtain ⟨i, rfl⟩ := k6 e
      obtain ⟨b, dx, p, L, y, rfl, hd1, x, hB, hLO, hO2⟩ := biz fun r z => by cases z
      have a1 : atI ((flat [[6, i]]).map V.int) 1 = some (vN i.toNat) := by rw [← int_vN (h0 i (by simp [flat]))]; exact atI_nat (j := 1) rfl
      refine ⟨_, rfl, qD_business (T := T) T hd1 (cB x (fun _ _ _ => rfl) ⟨_, rfl, C, _, _, _, rfl, rfl, hC, a1, p, L, y, b, _, rfl, x, fun H1 r s1 hr0 hr => ?_⟩)⟩
      exact k H1 r (hd.mono s1) (KO.of hO s1) (ne_of_none hO hr0).symm hr
    · obtain ⟨rfl, hnum⟩ := kn e0 e1 e6
      obtain ⟨b, dx, p, L, y, rfl, hd1, x, hB, hLO, hO2⟩ := biz fun r z => by cases z
      obtain ⟨b', v, nc, ed⟩ := hnum b
      rw [ed] at k
      refine ⟨_, rfl, cD hd1 rfl ⟨_, rfl, dd, dx, C, p, L, y, b, b', _, v, rfl, hd1, x, hB, hC, nc, fun H1 x1 f1 => ⟨two, fun r hr => ?_⟩⟩⟩
      have ko := KO.fr x f1 hO hO2
      have hO1 : H1 O = some (.lst zs) := ko.out.trans hO
      exact k _ r ((DAt.fr x f1 hd1 hLO hO2 x1 nc.len).mono (Same.upd hr)) (ko.trans (KO.of hO1 (Same.upd hr))) (ne_of_none hO1 hr).symm upd_same
end
end LD
namespace LD
open PySem L2
/-- the calls as they were handed in: known to the object, or the module's own -/
noncomputable def CAt (K : PySem.W.Frag) (H : Hp) (a : Addr) (xs : List V) : Prop := (∃ o, H a = some (.frz o (.lst xs))) ∨ ∃ (o : Obj) (its : Array Value) (n : Nat), K.lookup a = some o ∧ o.cls = .type "list" ∧ o.dict = none ∧ o.data = .seq its n ∧ its.size ≤ sizeLine ∧ Vals xs its.toList
theorem CAt.sq {K : PySem.W.Frag} {H : Hp} {a : Addr} {xs : List V} (h : CAt K H a xs) : SqL K H a xs := by
  rcases h with ⟨o, h⟩ | h
  · exact .inl (.inr ⟨o, h⟩)
  · exact .inr h
theorem CAt.frz {K : PySem.W.Frag} {H H' : Hp} {a : Addr} {xs : List V} (h : CAt K H a xs) (k : ∀ b o u, H b = some (.frz o u) → H' b = some (.frz o u)) : CAt K H' a xs := by
  rcases h with ⟨o, h⟩ | h
  · exact .inl ⟨o, k _ _ _ h⟩
  · exact .inr h
noncomputable def left (n : Nat) (σ : St) : Nat := match (σ[3]? : Option (Option V)) with
  | some (some (.int z)) => n - z.toNat
  | _ => 0
section
variable {P : Program} {w : World} {K : PySem.W.Frag} {mg : Str → Option Value} {base : Heap} {A : Ad}
noncomputable def spF_answers (K : PySem.W.Frag) : Sp := fun vs H Q _ => ∃ (C : Addr) (l : List Int), vs = [.ref C] ∧ CAt K H C (l.map V.int) ∧ (∀ x ∈ l, 0 ≤ x) ∧ l.length ≤ 16000 ∧ PyKp180.answers_asked l = true ∧
  ∀ H' O, H' O = some (.lst ((PyKp180.answers l).map V.int)) → Q (.ref O) H'
theorem cut_call {l x t : List Int} {n : Nat} (e : l.drop n = x ++ t) (hn : n + x.length ≤ l.length) : cutV (l.map V.int) (some (n : Int)) (some ((n : Int) + (x.length : Int))) = x.map V.int := by
  unfold cutV
  have e1 : HT.sIx (l.map V.int).length 0 (some (n : Int)) = n := by
    rw [List.length_map, HT.sIx_nat]
    omega
  have e2 : HT.sIx (l.map V.int).length (l.map V.int).length (some ((n : Int) + (x.length : Int))) = n + x.length := by
    rw [List.length_map, ← Int.natCast_add, HT.sIx_nat]
    omega
  rw [e1, e2, ← List.map_drop, e, List.map_append, Nat.add_sub_cancel_left]
  have : x.length = (x.map V.int).length := by rw [List.length_map]
  rw [this, List.take_left]
theorem ok_F_answers {fd : FuncData} (T : Txt K mg A) (F : Fun K "answers" "answers" s_F_answers A.F_answers fd) : FnOk P w K mg base CX0 8 A.F_answers fd ["calls"] (spF_answers K) := by
  obtain ⟨_, b_D_init, G_D_init⟩ := ok_D_init (P := P) (w := w) (base := base) T
  obtain ⟨_, b_F_call_size, G_F_call_size⟩ := ok_F_call_size (P := P) (w := w) (base := base) T
  obtain ⟨_, b_D_take_call, G_D_take_call⟩ := ok_D_take_call (P := P) (w := w) (base := base) T
  refine F.ok sc_F_answers (fun vs H Q E h => ?_) (fun cdv AA outer s H vs Q E hr h => ?_)
  · obtain ⟨C, l, rfl, _⟩ := h
    rfl
  · obtain ⟨C, l, rfl, hC, h0, hl, ha, k⟩ := h
    refine ⟨_, pss_cons (ps_set (i := 1) sc_F_answers.nd rfl (Or.inl rfl) (pe_make0 T.mkD G_D_init (hr.mono (by decide)) (by rfl) T.gD b_D_init .nil pass0)) (pss_cons (ps_set (i := 2) sc_F_answers.nd rfl (Or.inl rfl) (pe_lst pa_nil)) (pss_cons (ps_set (i := 3) sc_F_answers.nd rfl (Or.inl rfl) pe_int) (pss_cons (ps_while PassesOwn.never (pt_cmpR op_lt (pv 3) (pe_callB (call_lenK (K := K) rfl) (by rfl) T.z_len PySem.boot_len (pa_cons (pv 0) pa_nil)) (nomark _)) (pss_cons (ps_set (i := 4) sc_F_answers.nd rfl (Or.inl rfl) (pe_call G_F_call_size (hr.mono (by decide)) (by rfl) T.g_F_call_size T.k_F_call_size b_F_call_size .nil pass0 (pa_cons (pv 0) (pa_cons (pv 3) pa_nil)))) (pss_cons (ps_set (i := 5) sc_F_answers.nd rfl (Or.inl rfl) (pe_meth (pv 1) T.clD T.m_D_take_call G_D_take_call (hr.mono (by decide)) b_D_take_call .nil pass0 (pa_cons (pe_slice (sl_listK (K := K) rfl) (pv 0) (po_some (pv 3)) (po_some (pe_op op_add (pv 3) (pv 4)))) pa_nil))) (pss_cons (ps_expr (pe_bm PySem.F.plainAttrs_list PySem.F.slot_list_append PySem.F.type_list_append mt_append (pv 2) (pa_cons (pe_callB (call_lenK (K := K) rfl) (by rfl) T.z_len PySem.boot_len (pa_cons (pv 5) pa_nil)) pa_nil))) (pss_cons (ps_expr (pe_bm PySem.F.plainAttrs_list PySem.F.slot_list_extend PySem.F.type_list_extend mt_extend (pv 2) (pa_cons (pv 5) pa_nil))) (pss_one (ps_aug (i := 3) sc_F_answers.nd rfl (Or.inl rfl) (pv 4) iop_add))))))) (pss_one (ps_ret (pv 2)))))), ?_⟩
    intro dd dx nd ndx nex
    refine ⟨dd, dx, rfl, upd_same, fun H1 hd1 k1 => ⟨rfl, ?_⟩⟩
    have s1 : Same H H1 := Same.made nd ndx k1
    have hC1 := hC.frz fun b o u e => s1 _ _ e
    refine ⟨Nat.zero_le _, fun O hO => ?_⟩
    have hC2 := hC1.frz (H' := upd H1 O (.lst [])) fun b o u e => Same.upd hO _ _ e
    refine while_by (fun σ H' => ∃ (at_ n : Nat) (o : Option MB) (out : List Int) (v4 v5 : Option V), σ = [some (.ref C), some (.ref dd), some (.ref O), some (vN at_), v4, v5] ∧ LInv l at_ o out n ∧ DAt A H' dd O o ∧ H' O = some (.lst (out.map V.int)) ∧ CAt K H' C (l.map V.int))
      (fun σ _ => left l.length σ) ⟨0, 0, none, [], none, none, rfl, LInv.start ha, ⟨dx, .non, by rw [upd_ne (ne_of_none hd1 hO)]; exact hd1, rfl⟩, upd_same, hC2⟩ ?_ ?_
    · rintro σ H' ⟨at_, n, o, out, v4, v5, rfl, inv, hd, hout, hC'⟩
      refine ⟨_, rfl, _, rfl, C, _, rfl, .inl hC'.sq, _, _, rfl, rfl, _, rfl, ?_⟩
      refine ite2 (fun e => ?_) (fun e => ?_)
      · have hlt : at_ < l.length := by
          have e := of_decide_eq_true e
          rw [List.length_map] at e
          omega
        obtain ⟨c, t, ef, hc, inv2⟩ := inv.turn hlt
        have hx : at_ + (flat c).length ≤ l.length := inv2.al
        refine ⟨_, rfl, _, rfl, C, l, t, at_, c, rfl, hC'.sq, ef, hc.shape, ?_⟩
        refine ⟨_, rfl, ?_⟩
        obtain ⟨ddx, vv, hdd, _⟩ := id hd
        refine cD hdd rfl ⟨_, rfl, _, rfl, _, rfl, _, rfl, _, rfl, _, _, rfl, rfl, _, rfl, C, _, rfl, hC'.sq, fun q hq => ?_⟩
        have hcut : cutV (l.map V.int) (some (at_ : Int)) (some ((at_ : Int) + ((flat c).length : Int))) = (flat c).map V.int := cut_call ef hx
        rw [hcut]
        have sq : Same H' (upd H' q (.lst ((flat c).map V.int))) := Same.upd hq
        refine ⟨dd, O, q, o, n, c, _, rfl, hd.mono sq, sq _ _ hout, SqL.of upd_same, fun z hz => h0 z ?_, by omega, hc, fun H2 r hd2 ko hrO hr => ?_⟩
        · have : z ∈ l.drop at_ := by rw [ef]; exact List.mem_append_left _ hz
          exact List.mem_of_mem_drop this
        · have hO2 : H2 O = some (.lst (out.map V.int)) := ko.out.trans (sq _ _ hout)
          have hol := inv2.ol
          rw [List.length_append, List.length_cons] at hol
          have hfew := hc.few
          -- told.append(len(answered))
          refine ⟨_, rfl, .inl ⟨rfl, _, SqL.of hO2⟩, _, rfl, r, _, rfl, .inl (SqL.of hr), O, _, _, rfl, rfl, hO2, (by rw [List.length_map, sizeLine_eq]; omega), ?_⟩
          -- told.extend(answered)
          refine ⟨_, rfl, .inl ⟨rfl, _, SqL.of upd_same⟩, _, rfl, O, r, _, _, rfl, rfl, upd_same, (by rw [upd_ne hrO]; exact hr), (by rw [List.length_append, List.length_map, List.length_map, sizeLine_eq, List.length_singleton]; omega), ?_⟩
          refine ⟨_, rfl, _, rfl, _, _, rfl, rfl, ⟨at_ + (flat c).length, n + 1, _, _, some (vN (flat c).length), some (.ref r), ?_, inv2, ?_, ?_, ?_⟩, ?_⟩
          · show [some (V.ref C), some (V.ref dd), some (V.ref O), some (V.int ((at_ : Int) + ((flat c).length : Int))), some (vN (flat c).length), some (V.ref r)] = _
            rfl
          · have hO3 : ∀ b u, H2 b = some u → b ≠ O → upd (upd H2 O (.lst (out.map V.int ++ [V.int (((dcall o c).2.map V.int).length : Int)]))) O (.lst (out.map V.int ++ [V.int (((dcall o c).2.map V.int).length : Int)] ++ (dcall o c).2.map V.int)) b = some u := fun b u e hb => by rw [upd_ne hb, upd_ne hb]; exact e
            obtain ⟨d2, v2, g1, g2⟩ := hd2
            refine ⟨d2, v2, hO3 _ _ g1 (ne_of g1 hO2 (by intro z; cases z)), ?_⟩
            cases hb : (dcall o c).1 with
            | none => rw [hb] at g2; exact g2
            | some b =>
              rw [hb] at g2
              obtain ⟨p, L, y, e1, x, hLO, hne⟩ := g2
              refine ⟨p, L, y, e1, ?_, hLO, hne⟩
              obtain ⟨⟨db, hp⟩, hls⟩ := x
              refine ⟨⟨db, hO3 _ _ hp (ne_of hp hO2 (by intro z; cases z))⟩, ?_, fun i m em => (hls.st i m em).keep (fun c => hne i c (lt_of_some em)) hO2 hO3, hls.ia, hls.il, hls.nl⟩
              exact hO3 _ _ hls.ls hLO
          · rw [upd_same, List.length_map]
            congr 2
            rw [List.map_append, List.map_cons, List.append_assoc]
            rfl
          · refine hC'.frz fun b u v e => ?_
            have e2 := ko.frz b u v (sq _ _ e)
            rw [upd_ne (ne_of e2 hO2 (by intro z; cases z)), upd_ne (ne_of e2 hO2 (by intro z; cases z))]
            exact e2
          · show l.length - ((at_ : Int) + ((flat c).length : Int)).toNat < l.length - ((at_ : Int)).toNat
            have hpos : 0 < (flat c).length := by
              cases hc.shape <;> exact Nat.succ_pos _
            omega
      · have hge : l.length ≤ at_ := by
          apply Decidable.byContradiction
          intro z
          refine e (decide_eq_true ?_)
          rw [List.length_map]
          omega
        have ea := inv.done hge
        rw [ea] at hout
        exact ⟨_, rfl, k H' O hout⟩
    · rintro σ H' Q1 Q2 hq ⟨v, e1, v2, e2, p, ys, e3, hs, i, j, e4, e5, b, e6, q⟩
      exact ⟨v, e1, v2, e2, p, ys, e3, hs, i, j, e4, e5, b, e6, hq _ _ q⟩
end
end LD
namespace LD
open PySem L2
theorem vl0 {us : List Value} (h : us.length = 0) : us = [] := List.eq_nil_of_length_eq_zero h
theorem vl1 {us : List Value} (h : us.length = 1) : ∃ a0, us = [a0] := by
  cases us with
  | nil => cases h
  | cons a0 r =>
    exact ⟨a0, congrArg _ (vl0 (Nat.succ.inj h))⟩
theorem vl2 {us : List Value} (h : us.length = 2) : ∃ a0 a1, us = [a0, a1] := by
  cases us with
  | nil => cases h
  | cons a0 r =>
    obtain ⟨a1, e⟩ := vl1 (Nat.succ.inj h)
    exact ⟨a0, a1, congrArg _ e⟩
theorem vl3 {us : List Value} (h : us.length = 3) : ∃ a0 a1 a2, us = [a0, a1, a2] := by
  cases us with
  | nil => cases h
  | cons a0 r =>
    obtain ⟨a1, a2, e⟩ := vl2 (Nat.succ.inj h)
    exact ⟨a0, a1, a2, congrArg _ e⟩
theorem vl4 {us : List Value} (h : us.length = 4) : ∃ a0 a1 a2 a3, us = [a0, a1, a2, a3] := by
  cases us with
  | nil => cases h
  | cons a0 r =>
    obtain ⟨a1, a2, a3, e⟩ := vl3 (Nat.succ.inj h)
    exact ⟨a0, a1, a2, a3, congrArg _ e⟩
theorem vl5 {us : List Value} (h : us.length = 5) : ∃ a0 a1 a2 a3 a4, us = [a0, a1, a2, a3, a4] := by
  cases us with
  | nil => cases h
  | cons a0 r =>
    obtain ⟨a1, a2, a3, a4, e⟩ := vl4 (Nat.succ.inj h)
    exact ⟨a0, a1, a2, a3, a4, congrArg _ e⟩
set_option maxHeartbeats 8000000 in
theorem txt_mk {K : PySem.W.Frag} {h : Heap} {mg : Str → Option Value} {fa : Addr} (X : K.In h) (G : h.Ns mainGlobals mg) (hfa : mg "answers" = some (.ref fa))
    {CT : Addr} {CS : Addr} {CB : Addr} {CD : Addr} {fT_init : Addr} {odT_init anT_init : Option Addr} {slT_init : Array (Option Value)} {ocT_init kVT_init dcT_init pmT_init cdT_init ctT_init : Value} {fT_how_many : Addr} {odT_how_many anT_how_many : Option Addr} {slT_how_many : Array (Option Value)} {ocT_how_many kVT_how_many dcT_how_many pmT_how_many cdT_how_many ctT_how_many : Value} {fT_tell : Addr} {odT_tell anT_tell : Option Addr} {slT_tell : Array (Option Value)} {ocT_tell kVT_tell dcT_tell pmT_tell cdT_tell ctT_tell : Value} {fT_take_reply : Addr} {odT_take_reply anT_take_reply : Option Addr} {slT_take_reply : Array (Option Value)} {ocT_take_reply kVT_take_reply dcT_take_reply pmT_take_reply cdT_take_reply ctT_take_reply : Value} {fT_is_told : Addr} {odT_is_told anT_is_told : Option Addr} {slT_is_told : Array (Option Value)} {ocT_is_told kVT_is_told dcT_is_told pmT_is_told cdT_is_told ctT_is_told : Value} {fT_is_last : Addr} {odT_is_last anT_is_last : Option Addr} {slT_is_last : Array (Option Value)} {ocT_is_last kVT_is_last dcT_is_last pmT_is_last cdT_is_last ctT_is_last : Value} {fT_is_answered : Addr} {odT_is_answered anT_is_answered : Option Addr} {slT_is_answered : Array (Option Value)} {ocT_is_answered kVT_is_answered dcT_is_answered pmT_is_answered cdT_is_answered ctT_is_answered : Value} {fT_all_answered : Addr} {odT_all_answered anT_all_answered : Option Addr} {slT_all_answered : Array (Option Value)} {ocT_all_answered kVT_all_answered dcT_all_answered pmT_all_answered cdT_all_answered ctT_all_answered : Value} {fT_last_over : Addr} {odT_last_over anT_last_over : Option Addr} {slT_last_over : Array (Option Value)} {ocT_last_over kVT_last_over dcT_last_over pmT_last_over cdT_last_over ctT_last_over : Value} {fT_may_tell : Addr} {odT_may_tell anT_may_tell : Option Addr} {slT_may_tell : Array (Option Value)} {ocT_may_tell kVT_may_tell dcT_may_tell pmT_may_tell cdT_may_tell ctT_may_tell : Value} {fS_init : Addr} {odS_init anS_init : Option Addr} {slS_init : Array (Option Value)} {ocS_init kVS_init dcS_init pmS_init cdS_init ctS_init : Value} {fS_was_done : Addr} {odS_was_done anS_was_done : Option Addr} {slS_was_done : Array (Option Value)} {ocS_was_done kVS_was_done dcS_was_done pmS_was_done cdS_was_done ctS_was_done : Value} {fS_was_undone : Addr} {odS_was_undone anS_was_undone : Option Addr} {slS_was_undone : Array (Option Value)} {ocS_was_undone kVS_was_undone dcS_was_undone pmS_was_undone cdS_was_undone ctS_was_undone : Value} {fS_is_clean : Addr} {odS_is_clean anS_is_clean : Option Addr} {slS_is_clean : Array (Option Value)} {ocS_is_clean kVS_is_clean dcS_is_clean pmS_is_clean cdS_is_clean ctS_is_clean : Value} {fS_is_given_up : Addr} {odS_is_given_up anS_is_given_up : Option Addr} {slS_is_given_up : Array (Option Value)} {ocS_is_given_up kVS_is_given_up dcS_is_given_up pmS_is_given_up cdS_is_given_up ctS_is_given_up : Value} {fS_is_point_told : Addr} {odS_is_point_told anS_is_point_told : Option Addr} {slS_is_point_told : Array (Option Value)} {ocS_is_point_told kVS_is_point_told dcS_is_point_told pmS_is_point_told cdS_is_point_told ctS_is_point_told : Value} {fS_standing : Addr} {odS_standing anS_standing : Option Addr} {slS_standing : Array (Option Value)} {ocS_standing kVS_standing dcS_standing pmS_standing cdS_standing ctS_standing : Value} {fS_tellings : Addr} {odS_tellings anS_tellings : Option Addr} {slS_tellings : Array (Option Value)} {ocS_tellings kVS_tellings dcS_tellings pmS_tellings cdS_tellings ctS_tellings : Value} {fS_is_nothing_new : Addr} {odS_is_nothing_new anS_is_nothing_new : Option Addr} {slS_is_nothing_new : Array (Option Value)} {ocS_is_nothing_new kVS_is_nothing_new dcS_is_nothing_new pmS_is_nothing_new cdS_is_nothing_new ctS_is_nothing_new : Value} {fS_is_nothing_new_of_doing : Addr} {odS_is_nothing_new_of_doing anS_is_nothing_new_of_doing : Option Addr} {slS_is_nothing_new_of_doing : Array (Option Value)} {ocS_is_nothing_new_of_doing kVS_is_nothing_new_of_doing dcS_is_nothing_new_of_doing pmS_is_nothing_new_of_doing cdS_is_nothing_new_of_doing ctS_is_nothing_new_of_doing : Value} {fB_init : Addr} {odB_init anB_init : Option Addr} {slB_init : Array (Option Value)} {ocB_init kVB_init dcB_init pmB_init cdB_init ctB_init : Value} {fB_tell_next : Addr} {odB_tell_next anB_tell_next : Option Addr} {slB_tell_next : Array (Option Value)} {ocB_tell_next kVB_tell_next dcB_tell_next pmB_tell_next cdB_tell_next ctB_tell_next : Value} {fB_place_to_do : Addr} {odB_place_to_do anB_place_to_do : Option Addr} {slB_place_to_do : Array (Option Value)} {ocB_place_to_do kVB_place_to_do dcB_place_to_do pmB_place_to_do cdB_place_to_do ctB_place_to_do : Value} {fB_done_bits : Addr} {odB_done_bits anB_done_bits : Option Addr} {slB_done_bits : Array (Option Value)} {ocB_done_bits kVB_done_bits dcB_done_bits pmB_done_bits cdB_done_bits ctB_done_bits : Value} {fB_place_to_undo : Addr} {odB_place_to_undo anB_place_to_undo : Option Addr} {slB_place_to_undo : Array (Option Value)} {ocB_place_to_undo kVB_place_to_undo dcB_place_to_undo pmB_place_to_undo cdB_place_to_undo ctB_place_to_undo : Value} {fB_take_answer : Addr} {odB_take_answer anB_take_answer : Option Addr} {slB_take_answer : Array (Option Value)} {ocB_take_answer kVB_take_answer dcB_take_answer pmB_take_answer cdB_take_answer ctB_take_answer : Value} {fB_tick : Addr} {odB_tick anB_tick : Option Addr} {slB_tick : Array (Option Value)} {ocB_tick kVB_tick dcB_tick pmB_tick cdB_tick ctB_tick : Value} {fB_turn_back : Addr} {odB_turn_back anB_turn_back : Option Addr} {slB_turn_back : Array (Option Value)} {ocB_turn_back kVB_turn_back dcB_turn_back pmB_turn_back cdB_turn_back ctB_turn_back : Value} {fB_tell_step : Addr} {odB_tell_step anB_tell_step : Option Addr} {slB_tell_step : Array (Option Value)} {ocB_tell_step kVB_tell_step dcB_tell_step pmB_tell_step cdB_tell_step ctB_tell_step : Value} {fB_settle : Addr} {odB_settle anB_settle : Option Addr} {slB_settle : Array (Option Value)} {ocB_settle kVB_settle dcB_settle pmB_settle cdB_settle ctB_settle : Value} {fD_init : Addr} {odD_init anD_init : Option Addr} {slD_init : Array (Option Value)} {ocD_init kVD_init dcD_init pmD_init cdD_init ctD_init : Value} {fD_take_call : Addr} {odD_take_call anD_take_call : Option Addr} {slD_take_call : Array (Option Value)} {ocD_take_call kVD_take_call dcD_take_call pmD_take_call cdD_take_call ctD_take_call : Value} {fD_number_for : Addr} {odD_number_for anD_number_for : Option Addr} {slD_number_for : Array (Option Value)} {ocD_number_for kVD_number_for dcD_number_for pmD_number_for cdD_number_for ctD_number_for : Value} {fD_start : Addr} {odD_start anD_start : Option Addr} {slD_start : Array (Option Value)} {ocD_start kVD_start dcD_start pmD_start cdD_start ctD_start : Value} {fF_read_steps : Addr} {odF_read_steps anF_read_steps : Option Addr} {slF_read_steps : Array (Option Value)} {ocF_read_steps kVF_read_steps dcF_read_steps pmF_read_steps cdF_read_steps ctF_read_steps : Value} {fF_are_steps_fit : Addr} {odF_are_steps_fit anF_are_steps_fit : Option Addr} {slF_are_steps_fit : Array (Option Value)} {ocF_are_steps_fit kVF_are_steps_fit dcF_are_steps_fit pmF_are_steps_fit cdF_are_steps_fit ctF_are_steps_fit : Value} {fF_is_step_fit : Addr} {odF_is_step_fit anF_is_step_fit : Option Addr} {slF_is_step_fit : Array (Option Value)} {ocF_is_step_fit kVF_is_step_fit dcF_is_step_fit pmF_is_step_fit cdF_is_step_fit ctF_is_step_fit : Value} {fF_are_kinds_fit : Addr} {odF_are_kinds_fit anF_are_kinds_fit : Option Addr} {slF_are_kinds_fit : Array (Option Value)} {ocF_are_kinds_fit kVF_are_kinds_fit dcF_are_kinds_fit pmF_are_kinds_fit cdF_are_kinds_fit ctF_are_kinds_fit : Value} {fF_all_needs : Addr} {odF_all_needs anF_all_needs : Option Addr} {slF_all_needs : Array (Option Value)} {ocF_all_needs kVF_all_needs dcF_all_needs pmF_all_needs cdF_all_needs ctF_all_needs : Value} {fF_call_size : Addr} {odF_call_size anF_call_size : Option Addr} {slF_call_size : Array (Option Value)} {ocF_call_size kVF_call_size dcF_call_size pmF_call_size cdF_call_size ctF_call_size : Value} {fF_answers : Addr} {odF_answers anF_answers : Option Addr} {slF_answers : Array (Option Value)} {ocF_answers kVF_answers dcF_answers pmF_answers cdF_answers ctF_answers : Value} {tWRONG : Tok} {tTOO_LATE : Tok} {tNOTHING : Tok} {tNOT_TOLD : Tok} {tSTART : Tok} {tNEXT : Tok} {tANSWER : Tok} {tTICK : Tok} {tSTOP : Tok} {tSTEP : Tok} {tNUMBER_FORM : Tok} {tTHREE_FORM : Tok} {tON : Tok} {tBACK : Tok} {tDONE : Tok} {tUNDONE : Tok} {tAHEAD : Tok} {tPOINT : Tok} {tBEHIND : Tok} {tTO_DO : Tok} {tTO_UNDO : Tok} {tUNANSWERED : Tok} {tILL : Tok} {tWELL : Tok} {tNEITHER : Tok} {tWAS_DONE : Tok} {tWAS_UNDONE : Tok} {tNUMBERS_A_STEP : Tok} {tMOST_STEPS : Tok} {tMOST_WAIT : Tok} {tMOST_TRIES : Tok} {tMOST_TICKS : Tok} {tMOST_KEPT : Tok} {fz : Addr} {zd : Option Addr} {zn : Nat} {zs : Array (Option Value)} {z1 z2 z3 z4 z5 z6 : Tok}
    (aT : PySem.W.nsIn K mainGlobals "Tellings" = some (some (.ref CT)))
    (aS : PySem.W.nsIn K mainGlobals "Step" = some (some (.ref CS)))
    (aB : PySem.W.nsIn K mainGlobals "Business" = some (some (.ref CB)))
    (aD : PySem.W.nsIn K mainGlobals "Desk" = some (some (.ref CD)))
    (pgT : PySem.W.plainGet K CT Str.empty = true)
    (hdT : PySem.W.hasDictIn K CT = true)
    (poT : PySem.W.plainOver K CT = true)
    (saT : PySem.W.findIn K (.ref CT) "__setattr__" = some (some (.builtin "object.__setattr__")))
    (mkT : PySem.W.makesIn K CT = true)
    (kcT : PySem.W.keepIn K (.ref CT) = true)
    (nT_wait : PySem.W.findIn K (.ref CT) "wait" = some none)
    (nT_replies : PySem.W.findIn K (.ref CT) "replies" = some none)
    (nT_last_time : PySem.W.findIn K (.ref CT) "last_time" = some none)
    (nT_well : PySem.W.findIn K (.ref CT) "well" = some none)
    (pgS : PySem.W.plainGet K CS Str.empty = true)
    (hdS : PySem.W.hasDictIn K CS = true)
    (poS : PySem.W.plainOver K CS = true)
    (saS : PySem.W.findIn K (.ref CS) "__setattr__" = some (some (.builtin "object.__setattr__")))
    (mkS : PySem.W.makesIn K CS = true)
    (kcS : PySem.W.keepIn K (.ref CS) = true)
    (nS_needs : PySem.W.findIn K (.ref CS) "needs" = some none)
    (nS_wait : PySem.W.findIn K (.ref CS) "wait" = some none)
    (nS_tries : PySem.W.findIn K (.ref CS) "tries" = some none)
    (nS_kind : PySem.W.findIn K (.ref CS) "kind" = some none)
    (nS_doing : PySem.W.findIn K (.ref CS) "doing" = some none)
    (nS_undoing : PySem.W.findIn K (.ref CS) "undoing" = some none)
    (pgB : PySem.W.plainGet K CB Str.empty = true)
    (hdB : PySem.W.hasDictIn K CB = true)
    (poB : PySem.W.plainOver K CB = true)
    (saB : PySem.W.findIn K (.ref CB) "__setattr__" = some (some (.builtin "object.__setattr__")))
    (mkB : PySem.W.makesIn K CB = true)
    (kcB : PySem.W.keepIn K (.ref CB) = true)
    (nB_steps : PySem.W.findIn K (.ref CB) "steps" = some none)
    (nB_now : PySem.W.findIn K (.ref CB) "now" = some none)
    (nB_way : PySem.W.findIn K (.ref CB) "way" = some none)
    (pgD : PySem.W.plainGet K CD Str.empty = true)
    (hdD : PySem.W.hasDictIn K CD = true)
    (poD : PySem.W.plainOver K CD = true)
    (saD : PySem.W.findIn K (.ref CD) "__setattr__" = some (some (.builtin "object.__setattr__")))
    (mkD : PySem.W.makesIn K CD = true)
    (kcD : PySem.W.keepIn K (.ref CD) = true)
    (nD_business : PySem.W.findIn K (.ref CD) "business" = some none)
    (a_T_init : PySem.W.findIn K (.ref CT) "__init__" = some (some (.ref fT_init)))
    (i_T_init : PySem.W.isFn K (.ref fT_init) = true)
    (l_T_init : K.lookup fT_init = some ⟨ocT_init, odT_init, .func (PySem.W.fnOf "__init__" "Tellings.__init__" (defArgs s_T_init) (defBody s_T_init) (defScope s_T_init) .none kVT_init dcT_init pmT_init anT_init cdT_init ctT_init), slT_init⟩)
    (c_T_init : PySem.W.codeIn K cdT_init "Tellings.__init__" = true)
    (k_T_init : PySem.W.keepIn K (.ref fT_init) = true)
    (a_T_how_many : PySem.W.findIn K (.ref CT) "how_many" = some (some (.ref fT_how_many)))
    (i_T_how_many : PySem.W.isFn K (.ref fT_how_many) = true)
    (l_T_how_many : K.lookup fT_how_many = some ⟨ocT_how_many, odT_how_many, .func (PySem.W.fnOf "how_many" "Tellings.how_many" (defArgs s_T_how_many) (defBody s_T_how_many) (defScope s_T_how_many) .none kVT_how_many dcT_how_many pmT_how_many anT_how_many cdT_how_many ctT_how_many), slT_how_many⟩)
    (c_T_how_many : PySem.W.codeIn K cdT_how_many "Tellings.how_many" = true)
    (k_T_how_many : PySem.W.keepIn K (.ref fT_how_many) = true)
    (a_T_tell : PySem.W.findIn K (.ref CT) "tell" = some (some (.ref fT_tell)))
    (i_T_tell : PySem.W.isFn K (.ref fT_tell) = true)
    (l_T_tell : K.lookup fT_tell = some ⟨ocT_tell, odT_tell, .func (PySem.W.fnOf "tell" "Tellings.tell" (defArgs s_T_tell) (defBody s_T_tell) (defScope s_T_tell) .none kVT_tell dcT_tell pmT_tell anT_tell cdT_tell ctT_tell), slT_tell⟩)
    (c_T_tell : PySem.W.codeIn K cdT_tell "Tellings.tell" = true)
    (k_T_tell : PySem.W.keepIn K (.ref fT_tell) = true)
    (a_T_take_reply : PySem.W.findIn K (.ref CT) "take_reply" = some (some (.ref fT_take_reply)))
    (i_T_take_reply : PySem.W.isFn K (.ref fT_take_reply) = true)
    (l_T_take_reply : K.lookup fT_take_reply = some ⟨ocT_take_reply, odT_take_reply, .func (PySem.W.fnOf "take_reply" "Tellings.take_reply" (defArgs s_T_take_reply) (defBody s_T_take_reply) (defScope s_T_take_reply) .none kVT_take_reply dcT_take_reply pmT_take_reply anT_take_reply cdT_take_reply ctT_take_reply), slT_take_reply⟩)
    (c_T_take_reply : PySem.W.codeIn K cdT_take_reply "Tellings.take_reply" = true)
    (k_T_take_reply : PySem.W.keepIn K (.ref fT_take_reply) = true)
    (a_T_is_told : PySem.W.findIn K (.ref CT) "is_told" = some (some (.ref fT_is_told)))
    (i_T_is_told : PySem.W.isFn K (.ref fT_is_told) = true)
    (l_T_is_told : K.lookup fT_is_told = some ⟨ocT_is_told, odT_is_told, .func (PySem.W.fnOf "is_told" "Tellings.is_told" (defArgs s_T_is_told) (defBody s_T_is_told) (defScope s_T_is_told) .none kVT_is_told dcT_is_told pmT_is_told anT_is_told cdT_is_told ctT_is_told), slT_is_told⟩)
    (c_T_is_told : PySem.W.codeIn K cdT_is_told "Tellings.is_told" = true)
    (k_T_is_told : PySem.W.keepIn K (.ref fT_is_told) = true)
    (a_T_is_last : PySem.W.findIn K (.ref CT) "is_last" = some (some (.ref fT_is_last)))
    (i_T_is_last : PySem.W.isFn K (.ref fT_is_last) = true)
    (l_T_is_last : K.lookup fT_is_last = some ⟨ocT_is_last, odT_is_last, .func (PySem.W.fnOf "is_last" "Tellings.is_last" (defArgs s_T_is_last) (defBody s_T_is_last) (defScope s_T_is_last) .none kVT_is_last dcT_is_last pmT_is_last anT_is_last cdT_is_last ctT_is_last), slT_is_last⟩)
    (c_T_is_last : PySem.W.codeIn K cdT_is_last "Tellings.is_last" = true)
    (k_T_is_last : PySem.W.keepIn K (.ref fT_is_last) = true)
    (a_T_is_answered : PySem.W.findIn K (.ref CT) "is_answered" = some (some (.ref fT_is_answered)))
    (i_T_is_answered : PySem.W.isFn K (.ref fT_is_answered) = true)
    (l_T_is_answered : K.lookup fT_is_answered = some ⟨ocT_is_answered, odT_is_answered, .func (PySem.W.fnOf "is_answered" "Tellings.is_answered" (defArgs s_T_is_answered) (defBody s_T_is_answered) (defScope s_T_is_answered) .none kVT_is_answered dcT_is_answered pmT_is_answered anT_is_answered cdT_is_answered ctT_is_answered), slT_is_answered⟩)
    (c_T_is_answered : PySem.W.codeIn K cdT_is_answered "Tellings.is_answered" = true)
    (k_T_is_answered : PySem.W.keepIn K (.ref fT_is_answered) = true)
    (a_T_all_answered : PySem.W.findIn K (.ref CT) "all_answered" = some (some (.ref fT_all_answered)))
    (i_T_all_answered : PySem.W.isFn K (.ref fT_all_answered) = true)
    (l_T_all_answered : K.lookup fT_all_answered = some ⟨ocT_all_answered, odT_all_answered, .func (PySem.W.fnOf "all_answered" "Tellings.all_answered" (defArgs s_T_all_answered) (defBody s_T_all_answered) (defScope s_T_all_answered) .none kVT_all_answered dcT_all_answered pmT_all_answered anT_all_answered cdT_all_answered ctT_all_answered), slT_all_answered⟩)
    (c_T_all_answered : PySem.W.codeIn K cdT_all_answered "Tellings.all_answered" = true)
    (k_T_all_answered : PySem.W.keepIn K (.ref fT_all_answered) = true)
    (a_T_last_over : PySem.W.findIn K (.ref CT) "last_over" = some (some (.ref fT_last_over)))
    (i_T_last_over : PySem.W.isFn K (.ref fT_last_over) = true)
    (l_T_last_over : K.lookup fT_last_over = some ⟨ocT_last_over, odT_last_over, .func (PySem.W.fnOf "last_over" "Tellings.last_over" (defArgs s_T_last_over) (defBody s_T_last_over) (defScope s_T_last_over) .none kVT_last_over dcT_last_over pmT_last_over anT_last_over cdT_last_over ctT_last_over), slT_last_over⟩)
    (c_T_last_over : PySem.W.codeIn K cdT_last_over "Tellings.last_over" = true)
    (k_T_last_over : PySem.W.keepIn K (.ref fT_last_over) = true)
    (a_T_may_tell : PySem.W.findIn K (.ref CT) "may_tell" = some (some (.ref fT_may_tell)))
    (i_T_may_tell : PySem.W.isFn K (.ref fT_may_tell) = true)
    (l_T_may_tell : K.lookup fT_may_tell = some ⟨ocT_may_tell, odT_may_tell, .func (PySem.W.fnOf "may_tell" "Tellings.may_tell" (defArgs s_T_may_tell) (defBody s_T_may_tell) (defScope s_T_may_tell) .none kVT_may_tell dcT_may_tell pmT_may_tell anT_may_tell cdT_may_tell ctT_may_tell), slT_may_tell⟩)
    (c_T_may_tell : PySem.W.codeIn K cdT_may_tell "Tellings.may_tell" = true)
    (k_T_may_tell : PySem.W.keepIn K (.ref fT_may_tell) = true)
    (a_S_init : PySem.W.findIn K (.ref CS) "__init__" = some (some (.ref fS_init)))
    (i_S_init : PySem.W.isFn K (.ref fS_init) = true)
    (l_S_init : K.lookup fS_init = some ⟨ocS_init, odS_init, .func (PySem.W.fnOf "__init__" "Step.__init__" (defArgs s_S_init) (defBody s_S_init) (defScope s_S_init) .none kVS_init dcS_init pmS_init anS_init cdS_init ctS_init), slS_init⟩)
    (c_S_init : PySem.W.codeIn K cdS_init "Step.__init__" = true)
    (k_S_init : PySem.W.keepIn K (.ref fS_init) = true)
    (a_S_was_done : PySem.W.findIn K (.ref CS) "was_done" = some (some (.ref fS_was_done)))
    (i_S_was_done : PySem.W.isFn K (.ref fS_was_done) = true)
    (l_S_was_done : K.lookup fS_was_done = some ⟨ocS_was_done, odS_was_done, .func (PySem.W.fnOf "was_done" "Step.was_done" (defArgs s_S_was_done) (defBody s_S_was_done) (defScope s_S_was_done) .none kVS_was_done dcS_was_done pmS_was_done anS_was_done cdS_was_done ctS_was_done), slS_was_done⟩)
    (c_S_was_done : PySem.W.codeIn K cdS_was_done "Step.was_done" = true)
    (k_S_was_done : PySem.W.keepIn K (.ref fS_was_done) = true)
    (a_S_was_undone : PySem.W.findIn K (.ref CS) "was_undone" = some (some (.ref fS_was_undone)))
    (i_S_was_undone : PySem.W.isFn K (.ref fS_was_undone) = true)
    (l_S_was_undone : K.lookup fS_was_undone = some ⟨ocS_was_undone, odS_was_undone, .func (PySem.W.fnOf "was_undone" "Step.was_undone" (defArgs s_S_was_undone) (defBody s_S_was_undone) (defScope s_S_was_undone) .none kVS_was_undone dcS_was_undone pmS_was_undone anS_was_undone cdS_was_undone ctS_was_undone), slS_was_undone⟩)
    (c_S_was_undone : PySem.W.codeIn K cdS_was_undone "Step.was_undone" = true)
    (k_S_was_undone : PySem.W.keepIn K (.ref fS_was_undone) = true)
    (a_S_is_clean : PySem.W.findIn K (.ref CS) "is_clean" = some (some (.ref fS_is_clean)))
    (i_S_is_clean : PySem.W.isFn K (.ref fS_is_clean) = true)
    (l_S_is_clean : K.lookup fS_is_clean = some ⟨ocS_is_clean, odS_is_clean, .func (PySem.W.fnOf "is_clean" "Step.is_clean" (defArgs s_S_is_clean) (defBody s_S_is_clean) (defScope s_S_is_clean) .none kVS_is_clean dcS_is_clean pmS_is_clean anS_is_clean cdS_is_clean ctS_is_clean), slS_is_clean⟩)
    (c_S_is_clean : PySem.W.codeIn K cdS_is_clean "Step.is_clean" = true)
    (k_S_is_clean : PySem.W.keepIn K (.ref fS_is_clean) = true)
    (a_S_is_given_up : PySem.W.findIn K (.ref CS) "is_given_up" = some (some (.ref fS_is_given_up)))
    (i_S_is_given_up : PySem.W.isFn K (.ref fS_is_given_up) = true)
    (l_S_is_given_up : K.lookup fS_is_given_up = some ⟨ocS_is_given_up, odS_is_given_up, .func (PySem.W.fnOf "is_given_up" "Step.is_given_up" (defArgs s_S_is_given_up) (defBody s_S_is_given_up) (defScope s_S_is_given_up) .none kVS_is_given_up dcS_is_given_up pmS_is_given_up anS_is_given_up cdS_is_given_up ctS_is_given_up), slS_is_given_up⟩)
    (c_S_is_given_up : PySem.W.codeIn K cdS_is_given_up "Step.is_given_up" = true)
    (k_S_is_given_up : PySem.W.keepIn K (.ref fS_is_given_up) = true)
    (a_S_is_point_told : PySem.W.findIn K (.ref CS) "is_point_told" = some (some (.ref fS_is_point_told)))
    (i_S_is_point_told : PySem.W.isFn K (.ref fS_is_point_told) = true)
    (l_S_is_point_told : K.lookup fS_is_point_told = some ⟨ocS_is_point_told, odS_is_point_told, .func (PySem.W.fnOf "is_point_told" "Step.is_point_told" (defArgs s_S_is_point_told) (defBody s_S_is_point_told) (defScope s_S_is_point_told) .none kVS_is_point_told dcS_is_point_told pmS_is_point_told anS_is_point_told cdS_is_point_told ctS_is_point_told), slS_is_point_told⟩)
    (c_S_is_point_told : PySem.W.codeIn K cdS_is_point_told "Step.is_point_told" = true)
    (k_S_is_point_told : PySem.W.keepIn K (.ref fS_is_point_told) = true)
    (a_S_standing : PySem.W.findIn K (.ref CS) "standing" = some (some (.ref fS_standing)))
    (i_S_standing : PySem.W.isFn K (.ref fS_standing) = true)
    (l_S_standing : K.lookup fS_standing = some ⟨ocS_standing, odS_standing, .func (PySem.W.fnOf "standing" "Step.standing" (defArgs s_S_standing) (defBody s_S_standing) (defScope s_S_standing) .none kVS_standing dcS_standing pmS_standing anS_standing cdS_standing ctS_standing), slS_standing⟩)
    (c_S_standing : PySem.W.codeIn K cdS_standing "Step.standing" = true)
    (k_S_standing : PySem.W.keepIn K (.ref fS_standing) = true)
    (a_S_tellings : PySem.W.findIn K (.ref CS) "tellings" = some (some (.ref fS_tellings)))
    (i_S_tellings : PySem.W.isFn K (.ref fS_tellings) = true)
    (l_S_tellings : K.lookup fS_tellings = some ⟨ocS_tellings, odS_tellings, .func (PySem.W.fnOf "tellings" "Step.tellings" (defArgs s_S_tellings) (defBody s_S_tellings) (defScope s_S_tellings) .none kVS_tellings dcS_tellings pmS_tellings anS_tellings cdS_tellings ctS_tellings), slS_tellings⟩)
    (c_S_tellings : PySem.W.codeIn K cdS_tellings "Step.tellings" = true)
    (k_S_tellings : PySem.W.keepIn K (.ref fS_tellings) = true)
    (a_S_is_nothing_new : PySem.W.findIn K (.ref CS) "is_nothing_new" = some (some (.ref fS_is_nothing_new)))
    (i_S_is_nothing_new : PySem.W.isFn K (.ref fS_is_nothing_new) = true)
    (l_S_is_nothing_new : K.lookup fS_is_nothing_new = some ⟨ocS_is_nothing_new, odS_is_nothing_new, .func (PySem.W.fnOf "is_nothing_new" "Step.is_nothing_new" (defArgs s_S_is_nothing_new) (defBody s_S_is_nothing_new) (defScope s_S_is_nothing_new) .none kVS_is_nothing_new dcS_is_nothing_new pmS_is_nothing_new anS_is_nothing_new cdS_is_nothing_new ctS_is_nothing_new), slS_is_nothing_new⟩)
    (c_S_is_nothing_new : PySem.W.codeIn K cdS_is_nothing_new "Step.is_nothing_new" = true)
    (k_S_is_nothing_new : PySem.W.keepIn K (.ref fS_is_nothing_new) = true)
    (a_S_is_nothing_new_of_doing : PySem.W.findIn K (.ref CS) "is_nothing_new_of_doing" = some (some (.ref fS_is_nothing_new_of_doing)))
    (i_S_is_nothing_new_of_doing : PySem.W.isFn K (.ref fS_is_nothing_new_of_doing) = true)
    (l_S_is_nothing_new_of_doing : K.lookup fS_is_nothing_new_of_doing = some ⟨ocS_is_nothing_new_of_doing, odS_is_nothing_new_of_doing, .func (PySem.W.fnOf "is_nothing_new_of_doing" "Step.is_nothing_new_of_doing" (defArgs s_S_is_nothing_new_of_doing) (defBody s_S_is_nothing_new_of_doing) (defScope s_S_is_nothing_new_of_doing) .none kVS_is_nothing_new_of_doing dcS_is_nothing_new_of_doing pmS_is_nothing_new_of_doing anS_is_nothing_new_of_doing cdS_is_nothing_new_of_doing ctS_is_nothing_new_of_doing), slS_is_nothing_new_of_doing⟩)
    (c_S_is_nothing_new_of_doing : PySem.W.codeIn K cdS_is_nothing_new_of_doing "Step.is_nothing_new_of_doing" = true)
    (k_S_is_nothing_new_of_doing : PySem.W.keepIn K (.ref fS_is_nothing_new_of_doing) = true)
    (a_B_init : PySem.W.findIn K (.ref CB) "__init__" = some (some (.ref fB_init)))
    (i_B_init : PySem.W.isFn K (.ref fB_init) = true)
    (l_B_init : K.lookup fB_init = some ⟨ocB_init, odB_init, .func (PySem.W.fnOf "__init__" "Business.__init__" (defArgs s_B_init) (defBody s_B_init) (defScope s_B_init) .none kVB_init dcB_init pmB_init anB_init cdB_init ctB_init), slB_init⟩)
    (c_B_init : PySem.W.codeIn K cdB_init "Business.__init__" = true)
    (k_B_init : PySem.W.keepIn K (.ref fB_init) = true)
    (a_B_tell_next : PySem.W.findIn K (.ref CB) "tell_next" = some (some (.ref fB_tell_next)))
    (i_B_tell_next : PySem.W.isFn K (.ref fB_tell_next) = true)
    (l_B_tell_next : K.lookup fB_tell_next = some ⟨ocB_tell_next, odB_tell_next, .func (PySem.W.fnOf "tell_next" "Business.tell_next" (defArgs s_B_tell_next) (defBody s_B_tell_next) (defScope s_B_tell_next) .none kVB_tell_next dcB_tell_next pmB_tell_next anB_tell_next cdB_tell_next ctB_tell_next), slB_tell_next⟩)
    (c_B_tell_next : PySem.W.codeIn K cdB_tell_next "Business.tell_next" = true)
    (k_B_tell_next : PySem.W.keepIn K (.ref fB_tell_next) = true)
    (a_B_place_to_do : PySem.W.findIn K (.ref CB) "place_to_do" = some (some (.ref fB_place_to_do)))
    (i_B_place_to_do : PySem.W.isFn K (.ref fB_place_to_do) = true)
    (l_B_place_to_do : K.lookup fB_place_to_do = some ⟨ocB_place_to_do, odB_place_to_do, .func (PySem.W.fnOf "place_to_do" "Business.place_to_do" (defArgs s_B_place_to_do) (defBody s_B_place_to_do) (defScope s_B_place_to_do) .none kVB_place_to_do dcB_place_to_do pmB_place_to_do anB_place_to_do cdB_place_to_do ctB_place_to_do), slB_place_to_do⟩)
    (c_B_place_to_do : PySem.W.codeIn K cdB_place_to_do "Business.place_to_do" = true)
    (k_B_place_to_do : PySem.W.keepIn K (.ref fB_place_to_do) = true)
    (a_B_done_bits : PySem.W.findIn K (.ref CB) "done_bits" = some (some (.ref fB_done_bits)))
    (i_B_done_bits : PySem.W.isFn K (.ref fB_done_bits) = true)
    (l_B_done_bits : K.lookup fB_done_bits = some ⟨ocB_done_bits, odB_done_bits, .func (PySem.W.fnOf "done_bits" "Business.done_bits" (defArgs s_B_done_bits) (defBody s_B_done_bits) (defScope s_B_done_bits) .none kVB_done_bits dcB_done_bits pmB_done_bits anB_done_bits cdB_done_bits ctB_done_bits), slB_done_bits⟩)
    (c_B_done_bits : PySem.W.codeIn K cdB_done_bits "Business.done_bits" = true)
    (k_B_done_bits : PySem.W.keepIn K (.ref fB_done_bits) = true)
    (a_B_place_to_undo : PySem.W.findIn K (.ref CB) "place_to_undo" = some (some (.ref fB_place_to_undo)))
    (i_B_place_to_undo : PySem.W.isFn K (.ref fB_place_to_undo) = true)
    (l_B_place_to_undo : K.lookup fB_place_to_undo = some ⟨ocB_place_to_undo, odB_place_to_undo, .func (PySem.W.fnOf "place_to_undo" "Business.place_to_undo" (defArgs s_B_place_to_undo) (defBody s_B_place_to_undo) (defScope s_B_place_to_undo) .none kVB_place_to_undo dcB_place_to_undo pmB_place_to_undo anB_place_to_undo cdB_place_to_undo ctB_place_to_undo), slB_place_to_undo⟩)
    (c_B_place_to_undo : PySem.W.codeIn K cdB_place_to_undo "Business.place_to_undo" = true)
    (k_B_place_to_undo : PySem.W.keepIn K (.ref fB_place_to_undo) = true)
    (a_B_take_answer : PySem.W.findIn K (.ref CB) "take_answer" = some (some (.ref fB_take_answer)))
    (i_B_take_answer : PySem.W.isFn K (.ref fB_take_answer) = true)
    (l_B_take_answer : K.lookup fB_take_answer = some ⟨ocB_take_answer, odB_take_answer, .func (PySem.W.fnOf "take_answer" "Business.take_answer" (defArgs s_B_take_answer) (defBody s_B_take_answer) (defScope s_B_take_answer) .none kVB_take_answer dcB_take_answer pmB_take_answer anB_take_answer cdB_take_answer ctB_take_answer), slB_take_answer⟩)
    (c_B_take_answer : PySem.W.codeIn K cdB_take_answer "Business.take_answer" = true)
    (k_B_take_answer : PySem.W.keepIn K (.ref fB_take_answer) = true)
    (a_B_tick : PySem.W.findIn K (.ref CB) "tick" = some (some (.ref fB_tick)))
    (i_B_tick : PySem.W.isFn K (.ref fB_tick) = true)
    (l_B_tick : K.lookup fB_tick = some ⟨ocB_tick, odB_tick, .func (PySem.W.fnOf "tick" "Business.tick" (defArgs s_B_tick) (defBody s_B_tick) (defScope s_B_tick) .none kVB_tick dcB_tick pmB_tick anB_tick cdB_tick ctB_tick), slB_tick⟩)
    (c_B_tick : PySem.W.codeIn K cdB_tick "Business.tick" = true)
    (k_B_tick : PySem.W.keepIn K (.ref fB_tick) = true)
    (a_B_turn_back : PySem.W.findIn K (.ref CB) "turn_back" = some (some (.ref fB_turn_back)))
    (i_B_turn_back : PySem.W.isFn K (.ref fB_turn_back) = true)
    (l_B_turn_back : K.lookup fB_turn_back = some ⟨ocB_turn_back, odB_turn_back, .func (PySem.W.fnOf "turn_back" "Business.turn_back" (defArgs s_B_turn_back) (defBody s_B_turn_back) (defScope s_B_turn_back) .none kVB_turn_back dcB_turn_back pmB_turn_back anB_turn_back cdB_turn_back ctB_turn_back), slB_turn_back⟩)
    (c_B_turn_back : PySem.W.codeIn K cdB_turn_back "Business.turn_back" = true)
    (k_B_turn_back : PySem.W.keepIn K (.ref fB_turn_back) = true)
    (a_B_tell_step : PySem.W.findIn K (.ref CB) "tell_step" = some (some (.ref fB_tell_step)))
    (i_B_tell_step : PySem.W.isFn K (.ref fB_tell_step) = true)
    (l_B_tell_step : K.lookup fB_tell_step = some ⟨ocB_tell_step, odB_tell_step, .func (PySem.W.fnOf "tell_step" "Business.tell_step" (defArgs s_B_tell_step) (defBody s_B_tell_step) (defScope s_B_tell_step) .none kVB_tell_step dcB_tell_step pmB_tell_step anB_tell_step cdB_tell_step ctB_tell_step), slB_tell_step⟩)
    (c_B_tell_step : PySem.W.codeIn K cdB_tell_step "Business.tell_step" = true)
    (k_B_tell_step : PySem.W.keepIn K (.ref fB_tell_step) = true)
    (a_B_settle : PySem.W.findIn K (.ref CB) "settle" = some (some (.ref fB_settle)))
    (i_B_settle : PySem.W.isFn K (.ref fB_settle) = true)
    (l_B_settle : K.lookup fB_settle = some ⟨ocB_settle, odB_settle, .func (PySem.W.fnOf "settle" "Business.settle" (defArgs s_B_settle) (defBody s_B_settle) (defScope s_B_settle) .none kVB_settle dcB_settle pmB_settle anB_settle cdB_settle ctB_settle), slB_settle⟩)
    (c_B_settle : PySem.W.codeIn K cdB_settle "Business.settle" = true)
    (k_B_settle : PySem.W.keepIn K (.ref fB_settle) = true)
    (a_D_init : PySem.W.findIn K (.ref CD) "__init__" = some (some (.ref fD_init)))
    (i_D_init : PySem.W.isFn K (.ref fD_init) = true)
    (l_D_init : K.lookup fD_init = some ⟨ocD_init, odD_init, .func (PySem.W.fnOf "__init__" "Desk.__init__" (defArgs s_D_init) (defBody s_D_init) (defScope s_D_init) .none kVD_init dcD_init pmD_init anD_init cdD_init ctD_init), slD_init⟩)
    (c_D_init : PySem.W.codeIn K cdD_init "Desk.__init__" = true)
    (k_D_init : PySem.W.keepIn K (.ref fD_init) = true)
    (a_D_take_call : PySem.W.findIn K (.ref CD) "take_call" = some (some (.ref fD_take_call)))
    (i_D_take_call : PySem.W.isFn K (.ref fD_take_call) = true)
    (l_D_take_call : K.lookup fD_take_call = some ⟨ocD_take_call, odD_take_call, .func (PySem.W.fnOf "take_call" "Desk.take_call" (defArgs s_D_take_call) (defBody s_D_take_call) (defScope s_D_take_call) .none kVD_take_call dcD_take_call pmD_take_call anD_take_call cdD_take_call ctD_take_call), slD_take_call⟩)
    (c_D_take_call : PySem.W.codeIn K cdD_take_call "Desk.take_call" = true)
    (k_D_take_call : PySem.W.keepIn K (.ref fD_take_call) = true)
    (a_D_number_for : PySem.W.findIn K (.ref CD) "number_for" = some (some (.ref fD_number_for)))
    (i_D_number_for : PySem.W.isFn K (.ref fD_number_for) = true)
    (l_D_number_for : K.lookup fD_number_for = some ⟨ocD_number_for, odD_number_for, .func (PySem.W.fnOf "number_for" "Desk.number_for" (defArgs s_D_number_for) (defBody s_D_number_for) (defScope s_D_number_for) .none kVD_number_for dcD_number_for pmD_number_for anD_number_for cdD_number_for ctD_number_for), slD_number_for⟩)
    (c_D_number_for : PySem.W.codeIn K cdD_number_for "Desk.number_for" = true)
    (k_D_number_for : PySem.W.keepIn K (.ref fD_number_for) = true)
    (a_D_start : PySem.W.findIn K (.ref CD) "start" = some (some (.ref fD_start)))
    (i_D_start : PySem.W.isFn K (.ref fD_start) = true)
    (l_D_start : K.lookup fD_start = some ⟨ocD_start, odD_start, .func (PySem.W.fnOf "start" "Desk.start" (defArgs s_D_start) (defBody s_D_start) (defScope s_D_start) .none kVD_start dcD_start pmD_start anD_start cdD_start ctD_start), slD_start⟩)
    (c_D_start : PySem.W.codeIn K cdD_start "Desk.start" = true)
    (k_D_start : PySem.W.keepIn K (.ref fD_start) = true)
    (a_F_read_steps : PySem.W.nsIn K mainGlobals "read_steps" = some (some (.ref fF_read_steps)))
    (l_F_read_steps : K.lookup fF_read_steps = some ⟨ocF_read_steps, odF_read_steps, .func (PySem.W.fnOf "read_steps" "read_steps" (defArgs s_F_read_steps) (defBody s_F_read_steps) (defScope s_F_read_steps) .none kVF_read_steps dcF_read_steps pmF_read_steps anF_read_steps cdF_read_steps ctF_read_steps), slF_read_steps⟩)
    (c_F_read_steps : PySem.W.codeIn K cdF_read_steps "read_steps" = true)
    (k_F_read_steps : PySem.W.keepIn K (.ref fF_read_steps) = true)
    (a_F_are_steps_fit : PySem.W.nsIn K mainGlobals "are_steps_fit" = some (some (.ref fF_are_steps_fit)))
    (l_F_are_steps_fit : K.lookup fF_are_steps_fit = some ⟨ocF_are_steps_fit, odF_are_steps_fit, .func (PySem.W.fnOf "are_steps_fit" "are_steps_fit" (defArgs s_F_are_steps_fit) (defBody s_F_are_steps_fit) (defScope s_F_are_steps_fit) .none kVF_are_steps_fit dcF_are_steps_fit pmF_are_steps_fit anF_are_steps_fit cdF_are_steps_fit ctF_are_steps_fit), slF_are_steps_fit⟩)
    (c_F_are_steps_fit : PySem.W.codeIn K cdF_are_steps_fit "are_steps_fit" = true)
    (k_F_are_steps_fit : PySem.W.keepIn K (.ref fF_are_steps_fit) = true)
    (a_F_is_step_fit : PySem.W.nsIn K mainGlobals "is_step_fit" = some (some (.ref fF_is_step_fit)))
    (l_F_is_step_fit : K.lookup fF_is_step_fit = some ⟨ocF_is_step_fit, odF_is_step_fit, .func (PySem.W.fnOf "is_step_fit" "is_step_fit" (defArgs s_F_is_step_fit) (defBody s_F_is_step_fit) (defScope s_F_is_step_fit) .none kVF_is_step_fit dcF_is_step_fit pmF_is_step_fit anF_is_step_fit cdF_is_step_fit ctF_is_step_fit), slF_is_step_fit⟩)
    (c_F_is_step_fit : PySem.W.codeIn K cdF_is_step_fit "is_step_fit" = true)
    (k_F_is_step_fit : PySem.W.keepIn K (.ref fF_is_step_fit) = true)
    (a_F_are_kinds_fit : PySem.W.nsIn K mainGlobals "are_kinds_fit" = some (some (.ref fF_are_kinds_fit)))
    (l_F_are_kinds_fit : K.lookup fF_are_kinds_fit = some ⟨ocF_are_kinds_fit, odF_are_kinds_fit, .func (PySem.W.fnOf "are_kinds_fit" "are_kinds_fit" (defArgs s_F_are_kinds_fit) (defBody s_F_are_kinds_fit) (defScope s_F_are_kinds_fit) .none kVF_are_kinds_fit dcF_are_kinds_fit pmF_are_kinds_fit anF_are_kinds_fit cdF_are_kinds_fit ctF_are_kinds_fit), slF_are_kinds_fit⟩)
    (c_F_are_kinds_fit : PySem.W.codeIn K cdF_are_kinds_fit "are_kinds_fit" = true)
    (k_F_are_kinds_fit : PySem.W.keepIn K (.ref fF_are_kinds_fit) = true)
    (a_F_all_needs : PySem.W.nsIn K mainGlobals "all_needs" = some (some (.ref fF_all_needs)))
    (l_F_all_needs : K.lookup fF_all_needs = some ⟨ocF_all_needs, odF_all_needs, .func (PySem.W.fnOf "all_needs" "all_needs" (defArgs s_F_all_needs) (defBody s_F_all_needs) (defScope s_F_all_needs) .none kVF_all_needs dcF_all_needs pmF_all_needs anF_all_needs cdF_all_needs ctF_all_needs), slF_all_needs⟩)
    (c_F_all_needs : PySem.W.codeIn K cdF_all_needs "all_needs" = true)
    (k_F_all_needs : PySem.W.keepIn K (.ref fF_all_needs) = true)
    (a_F_call_size : PySem.W.nsIn K mainGlobals "call_size" = some (some (.ref fF_call_size)))
    (l_F_call_size : K.lookup fF_call_size = some ⟨ocF_call_size, odF_call_size, .func (PySem.W.fnOf "call_size" "call_size" (defArgs s_F_call_size) (defBody s_F_call_size) (defScope s_F_call_size) .none kVF_call_size dcF_call_size pmF_call_size anF_call_size cdF_call_size ctF_call_size), slF_call_size⟩)
    (c_F_call_size : PySem.W.codeIn K cdF_call_size "call_size" = true)
    (k_F_call_size : PySem.W.keepIn K (.ref fF_call_size) = true)
    (a_F_answers : PySem.W.nsIn K mainGlobals "answers" = some (some (.ref fF_answers)))
    (l_F_answers : K.lookup fF_answers = some ⟨ocF_answers, odF_answers, .func (PySem.W.fnOf "answers" "answers" (defArgs s_F_answers) (defBody s_F_answers) (defScope s_F_answers) .none kVF_answers dcF_answers pmF_answers anF_answers cdF_answers ctF_answers), slF_answers⟩)
    (c_F_answers : PySem.W.codeIn K cdF_answers "answers" = true)
    (k_F_answers : PySem.W.keepIn K (.ref fF_answers) = true)
    (q_WRONG : PySem.W.nsIn K mainGlobals "WRONG" = some (some (.int (-22) tWRONG)))
    (q_TOO_LATE : PySem.W.nsIn K mainGlobals "TOO_LATE" = some (some (.int (-16) tTOO_LATE)))
    (q_NOTHING : PySem.W.nsIn K mainGlobals "NOTHING" = some (some (.int (-11) tNOTHING)))
    (q_NOT_TOLD : PySem.W.nsIn K mainGlobals "NOT_TOLD" = some (some (.int (-2) tNOT_TOLD)))
    (q_START : PySem.W.nsIn K mainGlobals "START" = some (some (.int (0) tSTART)))
    (q_NEXT : PySem.W.nsIn K mainGlobals "NEXT" = some (some (.int (1) tNEXT)))
    (q_ANSWER : PySem.W.nsIn K mainGlobals "ANSWER" = some (some (.int (2) tANSWER)))
    (q_TICK : PySem.W.nsIn K mainGlobals "TICK" = some (some (.int (3) tTICK)))
    (q_STOP : PySem.W.nsIn K mainGlobals "STOP" = some (some (.int (4) tSTOP)))
    (q_STEP : PySem.W.nsIn K mainGlobals "STEP" = some (some (.int (6) tSTEP)))
    (q_NUMBER_FORM : PySem.W.nsIn K mainGlobals "NUMBER_FORM" = some (some (.int (0) tNUMBER_FORM)))
    (q_THREE_FORM : PySem.W.nsIn K mainGlobals "THREE_FORM" = some (some (.int (1) tTHREE_FORM)))
    (q_ON : PySem.W.nsIn K mainGlobals "ON" = some (some (.int (0) tON)))
    (q_BACK : PySem.W.nsIn K mainGlobals "BACK" = some (some (.int (1) tBACK)))
    (q_DONE : PySem.W.nsIn K mainGlobals "DONE" = some (some (.int (2) tDONE)))
    (q_UNDONE : PySem.W.nsIn K mainGlobals "UNDONE" = some (some (.int (3) tUNDONE)))
    (q_AHEAD : PySem.W.nsIn K mainGlobals "AHEAD" = some (some (.int (0) tAHEAD)))
    (q_POINT : PySem.W.nsIn K mainGlobals "POINT" = some (some (.int (1) tPOINT)))
    (q_BEHIND : PySem.W.nsIn K mainGlobals "BEHIND" = some (some (.int (2) tBEHIND)))
    (q_TO_DO : PySem.W.nsIn K mainGlobals "TO_DO" = some (some (.int (0) tTO_DO)))
    (q_TO_UNDO : PySem.W.nsIn K mainGlobals "TO_UNDO" = some (some (.int (1) tTO_UNDO)))
    (q_UNANSWERED : PySem.W.nsIn K mainGlobals "UNANSWERED" = some (some (.int (0) tUNANSWERED)))
    (q_ILL : PySem.W.nsIn K mainGlobals "ILL" = some (some (.int (1) tILL)))
    (q_WELL : PySem.W.nsIn K mainGlobals "WELL" = some (some (.int (2) tWELL)))
    (q_NEITHER : PySem.W.nsIn K mainGlobals "NEITHER" = some (some (.int (0) tNEITHER)))
    (q_WAS_DONE : PySem.W.nsIn K mainGlobals "WAS_DONE" = some (some (.int (1) tWAS_DONE)))
    (q_WAS_UNDONE : PySem.W.nsIn K mainGlobals "WAS_UNDONE" = some (some (.int (2) tWAS_UNDONE)))
    (q_NUMBERS_A_STEP : PySem.W.nsIn K mainGlobals "NUMBERS_A_STEP" = some (some (.int (4) tNUMBERS_A_STEP)))
    (q_MOST_STEPS : PySem.W.nsIn K mainGlobals "MOST_STEPS" = some (some (.int (32) tMOST_STEPS)))
    (q_MOST_WAIT : PySem.W.nsIn K mainGlobals "MOST_WAIT" = some (some (.int (65535) tMOST_WAIT)))
    (q_MOST_TRIES : PySem.W.nsIn K mainGlobals "MOST_TRIES" = some (some (.int (8) tMOST_TRIES)))
    (q_MOST_TICKS : PySem.W.nsIn K mainGlobals "MOST_TICKS" = some (some (.int (65535) tMOST_TICKS)))
    (q_MOST_KEPT : PySem.W.nsIn K mainGlobals "MOST_KEPT" = some (some (.int (8) tMOST_KEPT)))
    (q_sizes : PySem.W.nsIn K mainGlobals "CALL_SIZES" = some (some (.ref fz)))
    (l_sizes : K.lookup fz = some ⟨.type "tuple", zd, .seq #[.none, .int 1 z1, .int 5 z2, .int 2 z3, .int 1 z4, .int 1 z5, .int 2 z6] zn, zs⟩)
    (z_len : PySem.W.nsIn K mainGlobals "len" = some none)
    (z_any : PySem.W.nsIn K mainGlobals "any" = some none)
    (z_all : PySem.W.nsIn K mainGlobals "all" = some none)
    (z_range : PySem.W.nsIn K mainGlobals "range" = some none)
    (z_enumerate : PySem.W.nsIn K mainGlobals "enumerate" = some none) :
    ∃ (A : Ad) (fd : FuncData), Txt K mg A ∧ A.F_answers = fa ∧ Fun K "answers" "answers" s_F_answers fa fd ∧ ∀ (s : Shared) (u : Value), BindsTo s fd ⟨[u], []⟩ [("calls", u)] := by
  have e := hfa.symm.trans (PySem.W.mg_of X G a_F_answers)
  cases e
  have F_T_init := fun_mk (st := s_T_init) l_T_init c_T_init k_T_init
  have B_T_init := F_T_init.binds (ps := ["self", "wait"]) fun _ _ _ _ _ _ us hl => by obtain ⟨_, _, rfl⟩ := vl2 hl; rfl
  have F_T_how_many := fun_mk (st := s_T_how_many) l_T_how_many c_T_how_many k_T_how_many
  have B_T_how_many := F_T_how_many.binds (ps := ["self"]) fun _ _ _ _ _ _ us hl => by obtain ⟨_, rfl⟩ := vl1 hl; rfl
  have F_T_tell := fun_mk (st := s_T_tell) l_T_tell c_T_tell k_T_tell
  have B_T_tell := F_T_tell.binds (ps := ["self", "now"]) fun _ _ _ _ _ _ us hl => by obtain ⟨_, _, rfl⟩ := vl2 hl; rfl
  have F_T_take_reply := fun_mk (st := s_T_take_reply) l_T_take_reply c_T_take_reply k_T_take_reply
  have B_T_take_reply := F_T_take_reply.binds (ps := ["self", "k", "reply"]) fun _ _ _ _ _ _ us hl => by obtain ⟨_, _, _, rfl⟩ := vl3 hl; rfl
  have F_T_is_told := fun_mk (st := s_T_is_told) l_T_is_told c_T_is_told k_T_is_told
  have B_T_is_told := F_T_is_told.binds (ps := ["self", "k"]) fun _ _ _ _ _ _ us hl => by obtain ⟨_, _, rfl⟩ := vl2 hl; rfl
  have F_T_is_last := fun_mk (st := s_T_is_last) l_T_is_last c_T_is_last k_T_is_last
  have B_T_is_last := F_T_is_last.binds (ps := ["self", "k"]) fun _ _ _ _ _ _ us hl => by obtain ⟨_, _, rfl⟩ := vl2 hl; rfl
  have F_T_is_answered := fun_mk (st := s_T_is_answered) l_T_is_answered c_T_is_answered k_T_is_answered
  have B_T_is_answered := F_T_is_answered.binds (ps := ["self", "k"]) fun _ _ _ _ _ _ us hl => by obtain ⟨_, _, rfl⟩ := vl2 hl; rfl
  have F_T_all_answered := fun_mk (st := s_T_all_answered) l_T_all_answered c_T_all_answered k_T_all_answered
  have B_T_all_answered := F_T_all_answered.binds (ps := ["self"]) fun _ _ _ _ _ _ us hl => by obtain ⟨_, rfl⟩ := vl1 hl; rfl
  have F_T_last_over := fun_mk (st := s_T_last_over) l_T_last_over c_T_last_over k_T_last_over
  have B_T_last_over := F_T_last_over.binds (ps := ["self", "now"]) fun _ _ _ _ _ _ us hl => by obtain ⟨_, _, rfl⟩ := vl2 hl; rfl
  have F_T_may_tell := fun_mk (st := s_T_may_tell) l_T_may_tell c_T_may_tell k_T_may_tell
  have B_T_may_tell := F_T_may_tell.binds (ps := ["self", "now"]) fun _ _ _ _ _ _ us hl => by obtain ⟨_, _, rfl⟩ := vl2 hl; rfl
  have F_S_init := fun_mk (st := s_S_init) l_S_init c_S_init k_S_init
  have B_S_init := F_S_init.binds (ps := ["self", "needs", "wait", "tries", "kind"]) fun _ _ _ _ _ _ us hl => by obtain ⟨_, _, _, _, _, rfl⟩ := vl5 hl; rfl
  have F_S_was_done := fun_mk (st := s_S_was_done) l_S_was_done c_S_was_done k_S_was_done
  have B_S_was_done := F_S_was_done.binds (ps := ["self"]) fun _ _ _ _ _ _ us hl => by obtain ⟨_, rfl⟩ := vl1 hl; rfl
  have F_S_was_undone := fun_mk (st := s_S_was_undone) l_S_was_undone c_S_was_undone k_S_was_undone
  have B_S_was_undone := F_S_was_undone.binds (ps := ["self"]) fun _ _ _ _ _ _ us hl => by obtain ⟨_, rfl⟩ := vl1 hl; rfl
  have F_S_is_clean := fun_mk (st := s_S_is_clean) l_S_is_clean c_S_is_clean k_S_is_clean
  have B_S_is_clean := F_S_is_clean.binds (ps := ["self"]) fun _ _ _ _ _ _ us hl => by obtain ⟨_, rfl⟩ := vl1 hl; rfl
  have F_S_is_given_up := fun_mk (st := s_S_is_given_up) l_S_is_given_up c_S_is_given_up k_S_is_given_up
  have B_S_is_given_up := F_S_is_given_up.binds (ps := ["self", "now"]) fun _ _ _ _ _ _ us hl => by obtain ⟨_, _, rfl⟩ := vl2 hl; rfl
  have F_S_is_point_told := fun_mk (st := s_S_is_point_told) l_S_is_point_told c_S_is_point_told k_S_is_point_told
  have B_S_is_point_told := F_S_is_point_told.binds (ps := ["self"]) fun _ _ _ _ _ _ us hl => by obtain ⟨_, rfl⟩ := vl1 hl; rfl
  have F_S_standing := fun_mk (st := s_S_standing) l_S_standing c_S_standing k_S_standing
  have B_S_standing := F_S_standing.binds (ps := ["self"]) fun _ _ _ _ _ _ us hl => by obtain ⟨_, rfl⟩ := vl1 hl; rfl
  have F_S_tellings := fun_mk (st := s_S_tellings) l_S_tellings c_S_tellings k_S_tellings
  have B_S_tellings := F_S_tellings.binds (ps := ["self", "what"]) fun _ _ _ _ _ _ us hl => by obtain ⟨_, _, rfl⟩ := vl2 hl; rfl
  have F_S_is_nothing_new := fun_mk (st := s_S_is_nothing_new) l_S_is_nothing_new c_S_is_nothing_new k_S_is_nothing_new
  have B_S_is_nothing_new := F_S_is_nothing_new.binds (ps := ["self", "what", "k", "ok"]) fun _ _ _ _ _ _ us hl => by obtain ⟨_, _, _, _, rfl⟩ := vl4 hl; rfl
  have F_S_is_nothing_new_of_doing := fun_mk (st := s_S_is_nothing_new_of_doing) l_S_is_nothing_new_of_doing c_S_is_nothing_new_of_doing k_S_is_nothing_new_of_doing
  have B_S_is_nothing_new_of_doing := F_S_is_nothing_new_of_doing.binds (ps := ["self", "k", "ok"]) fun _ _ _ _ _ _ us hl => by obtain ⟨_, _, _, rfl⟩ := vl3 hl; rfl
  have F_B_init := fun_mk (st := s_B_init) l_B_init c_B_init k_B_init
  have B_B_init := F_B_init.binds (ps := ["self", "steps"]) fun _ _ _ _ _ _ us hl => by obtain ⟨_, _, rfl⟩ := vl2 hl; rfl
  have F_B_tell_next := fun_mk (st := s_B_tell_next) l_B_tell_next c_B_tell_next k_B_tell_next
  have B_B_tell_next := F_B_tell_next.binds (ps := ["self"]) fun _ _ _ _ _ _ us hl => by obtain ⟨_, rfl⟩ := vl1 hl; rfl
  have F_B_place_to_do := fun_mk (st := s_B_place_to_do) l_B_place_to_do c_B_place_to_do k_B_place_to_do
  have B_B_place_to_do := F_B_place_to_do.binds (ps := ["self"]) fun _ _ _ _ _ _ us hl => by obtain ⟨_, rfl⟩ := vl1 hl; rfl
  have F_B_done_bits := fun_mk (st := s_B_done_bits) l_B_done_bits c_B_done_bits k_B_done_bits
  have B_B_done_bits := F_B_done_bits.binds (ps := ["self"]) fun _ _ _ _ _ _ us hl => by obtain ⟨_, rfl⟩ := vl1 hl; rfl
  have F_B_place_to_undo := fun_mk (st := s_B_place_to_undo) l_B_place_to_undo c_B_place_to_undo k_B_place_to_undo
  have B_B_place_to_undo := F_B_place_to_undo.binds (ps := ["self"]) fun _ _ _ _ _ _ us hl => by obtain ⟨_, rfl⟩ := vl1 hl; rfl
  have F_B_take_answer := fun_mk (st := s_B_take_answer) l_B_take_answer c_B_take_answer k_B_take_answer
  have B_B_take_answer := F_B_take_answer.binds (ps := ["self", "i", "what", "k", "ok"]) fun _ _ _ _ _ _ us hl => by obtain ⟨_, _, _, _, _, rfl⟩ := vl5 hl; rfl
  have F_B_tick := fun_mk (st := s_B_tick) l_B_tick c_B_tick k_B_tick
  have B_B_tick := F_B_tick.binds (ps := ["self", "ticks"]) fun _ _ _ _ _ _ us hl => by obtain ⟨_, _, rfl⟩ := vl2 hl; rfl
  have F_B_turn_back := fun_mk (st := s_B_turn_back) l_B_turn_back c_B_turn_back k_B_turn_back
  have B_B_turn_back := F_B_turn_back.binds (ps := ["self"]) fun _ _ _ _ _ _ us hl => by obtain ⟨_, rfl⟩ := vl1 hl; rfl
  have F_B_tell_step := fun_mk (st := s_B_tell_step) l_B_tell_step c_B_tell_step k_B_tell_step
  have B_B_tell_step := F_B_tell_step.binds (ps := ["self", "i"]) fun _ _ _ _ _ _ us hl => by obtain ⟨_, _, rfl⟩ := vl2 hl; rfl
  have F_B_settle := fun_mk (st := s_B_settle) l_B_settle c_B_settle k_B_settle
  have B_B_settle := F_B_settle.binds (ps := ["self"]) fun _ _ _ _ _ _ us hl => by obtain ⟨_, rfl⟩ := vl1 hl; rfl
  have F_D_init := fun_mk (st := s_D_init) l_D_init c_D_init k_D_init
  have B_D_init := F_D_init.binds (ps := ["self"]) fun _ _ _ _ _ _ us hl => by obtain ⟨_, rfl⟩ := vl1 hl; rfl
  have F_D_take_call := fun_mk (st := s_D_take_call) l_D_take_call c_D_take_call k_D_take_call
  have B_D_take_call := F_D_take_call.binds (ps := ["self", "call"]) fun _ _ _ _ _ _ us hl => by obtain ⟨_, _, rfl⟩ := vl2 hl; rfl
  have F_D_number_for := fun_mk (st := s_D_number_for) l_D_number_for c_D_number_for k_D_number_for
  have B_D_number_for := F_D_number_for.binds (ps := ["self", "call"]) fun _ _ _ _ _ _ us hl => by obtain ⟨_, _, rfl⟩ := vl2 hl; rfl
  have F_D_start := fun_mk (st := s_D_start) l_D_start c_D_start k_D_start
  have B_D_start := F_D_start.binds (ps := ["self", "numbers"]) fun _ _ _ _ _ _ us hl => by obtain ⟨_, _, rfl⟩ := vl2 hl; rfl
  have F_F_read_steps := fun_mk (st := s_F_read_steps) l_F_read_steps c_F_read_steps k_F_read_steps
  have B_F_read_steps := F_F_read_steps.binds (ps := ["numbers"]) fun _ _ _ _ _ _ us hl => by obtain ⟨_, rfl⟩ := vl1 hl; rfl
  have F_F_are_steps_fit := fun_mk (st := s_F_are_steps_fit) l_F_are_steps_fit c_F_are_steps_fit k_F_are_steps_fit
  have B_F_are_steps_fit := F_F_are_steps_fit.binds (ps := ["steps"]) fun _ _ _ _ _ _ us hl => by obtain ⟨_, rfl⟩ := vl1 hl; rfl
  have F_F_is_step_fit := fun_mk (st := s_F_is_step_fit) l_F_is_step_fit c_F_is_step_fit k_F_is_step_fit
  have B_F_is_step_fit := F_F_is_step_fit.binds (ps := ["place", "step"]) fun _ _ _ _ _ _ us hl => by obtain ⟨_, _, rfl⟩ := vl2 hl; rfl
  have F_F_are_kinds_fit := fun_mk (st := s_F_are_kinds_fit) l_F_are_kinds_fit c_F_are_kinds_fit k_F_are_kinds_fit
  have B_F_are_kinds_fit := F_F_are_kinds_fit.binds (ps := ["steps", "point"]) fun _ _ _ _ _ _ us hl => by obtain ⟨_, _, rfl⟩ := vl2 hl; rfl
  have F_F_all_needs := fun_mk (st := s_F_all_needs) l_F_all_needs c_F_all_needs k_F_all_needs
  have B_F_all_needs := F_F_all_needs.binds (ps := ["steps"]) fun _ _ _ _ _ _ us hl => by obtain ⟨_, rfl⟩ := vl1 hl; rfl
  have F_F_call_size := fun_mk (st := s_F_call_size) l_F_call_size c_F_call_size k_F_call_size
  have B_F_call_size := F_F_call_size.binds (ps := ["calls", "at"]) fun _ _ _ _ _ _ us hl => by obtain ⟨_, _, rfl⟩ := vl2 hl; rfl
  have F_F_answers := fun_mk (st := s_F_answers) l_F_answers c_F_answers k_F_answers
  have B_F_answers := F_F_answers.binds (ps := ["calls"]) fun _ _ _ _ _ _ us hl => by obtain ⟨_, rfl⟩ := vl1 hl; rfl
  refine ⟨{ CT := CT, CS := CS, CB := CB, CD := CD, T_init := fT_init, T_how_many := fT_how_many, T_tell := fT_tell, T_take_reply := fT_take_reply, T_is_told := fT_is_told, T_is_last := fT_is_last, T_is_answered := fT_is_answered, T_all_answered := fT_all_answered, T_last_over := fT_last_over, T_may_tell := fT_may_tell, S_init := fS_init, S_was_done := fS_was_done, S_was_undone := fS_was_undone, S_is_clean := fS_is_clean, S_is_given_up := fS_is_given_up, S_is_point_told := fS_is_point_told, S_standing := fS_standing, S_tellings := fS_tellings, S_is_nothing_new := fS_is_nothing_new, S_is_nothing_new_of_doing := fS_is_nothing_new_of_doing, B_init := fB_init, B_tell_next := fB_tell_next, B_place_to_do := fB_place_to_do, B_done_bits := fB_done_bits, B_place_to_undo := fB_place_to_undo, B_take_answer := fB_take_answer, B_tick := fB_tick, B_turn_back := fB_turn_back, B_tell_step := fB_tell_step, B_settle := fB_settle, D_init := fD_init, D_take_call := fD_take_call, D_number_for := fD_number_for, D_start := fD_start, F_read_steps := fF_read_steps, F_are_steps_fit := fF_are_steps_fit, F_is_step_fit := fF_is_step_fit, F_are_kinds_fit := fF_are_kinds_fit, F_all_needs := fF_all_needs, F_call_size := fF_call_size, F_answers := fa, k_WRONG := tWRONG, k_TOO_LATE := tTOO_LATE, k_NOTHING := tNOTHING, k_NOT_TOLD := tNOT_TOLD, k_START := tSTART, k_NEXT := tNEXT, k_ANSWER := tANSWER, k_TICK := tTICK, k_STOP := tSTOP, k_STEP := tSTEP, k_NUMBER_FORM := tNUMBER_FORM, k_THREE_FORM := tTHREE_FORM, k_ON := tON, k_BACK := tBACK, k_DONE := tDONE, k_UNDONE := tUNDONE, k_AHEAD := tAHEAD, k_POINT := tPOINT, k_BEHIND := tBEHIND, k_TO_DO := tTO_DO, k_TO_UNDO := tTO_UNDO, k_UNANSWERED := tUNANSWERED, k_ILL := tILL, k_WELL := tWELL, k_NEITHER := tNEITHER, k_WAS_DONE := tWAS_DONE, k_WAS_UNDONE := tWAS_UNDONE, k_NUMBERS_A_STEP := tNUMBERS_A_STEP, k_MOST_STEPS := tMOST_STEPS, k_MOST_WAIT := tMOST_WAIT, k_MOST_TRIES := tMOST_TRIES, k_MOST_TICKS := tMOST_TICKS, k_MOST_KEPT := tMOST_KEPT, sizes := fz }, _, ?_, rfl, F_F_answers, fun s u => .of_eq rfl⟩
  exact { clT := ⟨pgT, hdT, poT, saT⟩,
          clS := ⟨pgS, hdS, poS, saS⟩,
          clB := ⟨pgB, hdB, poB, saB⟩,
          clD := ⟨pgD, hdD, poD, saD⟩,
          gT := PySem.W.mg_of X G aT,
          gS := PySem.W.mg_of X G aS,
          gB := PySem.W.mg_of X G aB,
          gD := PySem.W.mg_of X G aD,
          mkT := ⟨mkT, a_T_init, i_T_init, kcT⟩,
          mkS := ⟨mkS, a_S_init, i_S_init, kcS⟩,
          mkB := ⟨mkB, a_B_init, i_B_init, kcB⟩,
          mkD := ⟨mkD, a_D_init, i_D_init, kcD⟩,
          nT_wait := nT_wait,
          nT_replies := nT_replies,
          nT_last_time := nT_last_time,
          nT_well := nT_well,
          nS_needs := nS_needs,
          nS_wait := nS_wait,
          nS_tries := nS_tries,
          nS_kind := nS_kind,
          nS_doing := nS_doing,
          nS_undoing := nS_undoing,
          nB_steps := nB_steps,
          nB_now := nB_now,
          nB_way := nB_way,
          nD_business := nD_business,
          f_T_init := ⟨_, F_T_init, B_T_init⟩,
          f_T_how_many := ⟨_, F_T_how_many, B_T_how_many⟩,
          m_T_how_many := ⟨a_T_how_many, i_T_how_many, k_T_how_many⟩,
          f_T_tell := ⟨_, F_T_tell, B_T_tell⟩,
          m_T_tell := ⟨a_T_tell, i_T_tell, k_T_tell⟩,
          f_T_take_reply := ⟨_, F_T_take_reply, B_T_take_reply⟩,
          m_T_take_reply := ⟨a_T_take_reply, i_T_take_reply, k_T_take_reply⟩,
          f_T_is_told := ⟨_, F_T_is_told, B_T_is_told⟩,
          m_T_is_told := ⟨a_T_is_told, i_T_is_told, k_T_is_told⟩,
          f_T_is_last := ⟨_, F_T_is_last, B_T_is_last⟩,
          m_T_is_last := ⟨a_T_is_last, i_T_is_last, k_T_is_last⟩,
          f_T_is_answered := ⟨_, F_T_is_answered, B_T_is_answered⟩,
          m_T_is_answered := ⟨a_T_is_answered, i_T_is_answered, k_T_is_answered⟩,
          f_T_all_answered := ⟨_, F_T_all_answered, B_T_all_answered⟩,
          m_T_all_answered := ⟨a_T_all_answered, i_T_all_answered, k_T_all_answered⟩,
          f_T_last_over := ⟨_, F_T_last_over, B_T_last_over⟩,
          m_T_last_over := ⟨a_T_last_over, i_T_last_over, k_T_last_over⟩,
          f_T_may_tell := ⟨_, F_T_may_tell, B_T_may_tell⟩,
          m_T_may_tell := ⟨a_T_may_tell, i_T_may_tell, k_T_may_tell⟩,
          f_S_init := ⟨_, F_S_init, B_S_init⟩,
          f_S_was_done := ⟨_, F_S_was_done, B_S_was_done⟩,
          m_S_was_done := ⟨a_S_was_done, i_S_was_done, k_S_was_done⟩,
          f_S_was_undone := ⟨_, F_S_was_undone, B_S_was_undone⟩,
          m_S_was_undone := ⟨a_S_was_undone, i_S_was_undone, k_S_was_undone⟩,
          f_S_is_clean := ⟨_, F_S_is_clean, B_S_is_clean⟩,
          m_S_is_clean := ⟨a_S_is_clean, i_S_is_clean, k_S_is_clean⟩,
          f_S_is_given_up := ⟨_, F_S_is_given_up, B_S_is_given_up⟩,
          m_S_is_given_up := ⟨a_S_is_given_up, i_S_is_given_up, k_S_is_given_up⟩,
          f_S_is_point_told := ⟨_, F_S_is_point_told, B_S_is_point_told⟩,
          m_S_is_point_told := ⟨a_S_is_point_told, i_S_is_point_told, k_S_is_point_told⟩,
          f_S_standing := ⟨_, F_S_standing, B_S_standing⟩,
          m_S_standing := ⟨a_S_standing, i_S_standing, k_S_standing⟩,
          f_S_tellings := ⟨_, F_S_tellings, B_S_tellings⟩,
          m_S_tellings := ⟨a_S_tellings, i_S_tellings, k_S_tellings⟩,
          f_S_is_nothing_new := ⟨_, F_S_is_nothing_new, B_S_is_nothing_new⟩,
          m_S_is_nothing_new := ⟨a_S_is_nothing_new, i_S_is_nothing_new, k_S_is_nothing_new⟩,
          f_S_is_nothing_new_of_doing := ⟨_, F_S_is_nothing_new_of_doing, B_S_is_nothing_new_of_doing⟩,
          m_S_is_nothing_new_of_doing := ⟨a_S_is_nothing_new_of_doing, i_S_is_nothing_new_of_doing, k_S_is_nothing_new_of_doing⟩,
          f_B_init := ⟨_, F_B_init, B_B_init⟩,
          f_B_tell_next := ⟨_, F_B_tell_next, B_B_tell_next⟩,
          m_B_tell_next := ⟨a_B_tell_next, i_B_tell_next, k_B_tell_next⟩,
          f_B_place_to_do := ⟨_, F_B_place_to_do, B_B_place_to_do⟩,
          m_B_place_to_do := ⟨a_B_place_to_do, i_B_place_to_do, k_B_place_to_do⟩,
          f_B_done_bits := ⟨_, F_B_done_bits, B_B_done_bits⟩,
          m_B_done_bits := ⟨a_B_done_bits, i_B_done_bits, k_B_done_bits⟩,
          f_B_place_to_undo := ⟨_, F_B_place_to_undo, B_B_place_to_undo⟩,
          m_B_place_to_undo := ⟨a_B_place_to_undo, i_B_place_to_undo, k_B_place_to_undo⟩,
          f_B_take_answer := ⟨_, F_B_take_answer, B_B_take_answer⟩,
          m_B_take_answer := ⟨a_B_take_answer, i_B_take_answer, k_B_take_answer⟩,
          f_B_tick := ⟨_, F_B_tick, B_B_tick⟩,
          m_B_tick := ⟨a_B_tick, i_B_tick, k_B_tick⟩,
          f_B_turn_back := ⟨_, F_B_turn_back, B_B_turn_back⟩,
          m_B_turn_back := ⟨a_B_turn_back, i_B_turn_back, k_B_turn_back⟩,
          f_B_tell_step := ⟨_, F_B_tell_step, B_B_tell_step⟩,
          m_B_tell_step := ⟨a_B_tell_step, i_B_tell_step, k_B_tell_step⟩,
          f_B_settle := ⟨_, F_B_settle, B_B_settle⟩,
          m_B_settle := ⟨a_B_settle, i_B_settle, k_B_settle⟩,
          f_D_init := ⟨_, F_D_init, B_D_init⟩,
          f_D_take_call := ⟨_, F_D_take_call, B_D_take_call⟩,
          m_D_take_call := ⟨a_D_take_call, i_D_take_call, k_D_take_call⟩,
          f_D_number_for := ⟨_, F_D_number_for, B_D_number_for⟩,
          m_D_number_for := ⟨a_D_number_for, i_D_number_for, k_D_number_for⟩,
          f_D_start := ⟨_, F_D_start, B_D_start⟩,
          m_D_start := ⟨a_D_start, i_D_start, k_D_start⟩,
          f_F_read_steps := ⟨_, F_F_read_steps, B_F_read_steps⟩,
          g_F_read_steps := PySem.W.mg_of X G a_F_read_steps,
          k_F_read_steps := k_F_read_steps,
          f_F_are_steps_fit := ⟨_, F_F_are_steps_fit, B_F_are_steps_fit⟩,
          g_F_are_steps_fit := PySem.W.mg_of X G a_F_are_steps_fit,
          k_F_are_steps_fit := k_F_are_steps_fit,
          f_F_is_step_fit := ⟨_, F_F_is_step_fit, B_F_is_step_fit⟩,
          g_F_is_step_fit := PySem.W.mg_of X G a_F_is_step_fit,
          k_F_is_step_fit := k_F_is_step_fit,
          f_F_are_kinds_fit := ⟨_, F_F_are_kinds_fit, B_F_are_kinds_fit⟩,
          g_F_are_kinds_fit := PySem.W.mg_of X G a_F_are_kinds_fit,
          k_F_are_kinds_fit := k_F_are_kinds_fit,
          f_F_all_needs := ⟨_, F_F_all_needs, B_F_all_needs⟩,
          g_F_all_needs := PySem.W.mg_of X G a_F_all_needs,
          k_F_all_needs := k_F_all_needs,
          f_F_call_size := ⟨_, F_F_call_size, B_F_call_size⟩,
          g_F_call_size := PySem.W.mg_of X G a_F_call_size,
          k_F_call_size := k_F_call_size,
          f_F_answers := ⟨_, F_F_answers, B_F_answers⟩,
          g_F_answers := PySem.W.mg_of X G a_F_answers,
          k_F_answers := k_F_answers,
          g_WRONG := PySem.W.mg_of X G q_WRONG,
          g_TOO_LATE := PySem.W.mg_of X G q_TOO_LATE,
          g_NOTHING := PySem.W.mg_of X G q_NOTHING,
          g_NOT_TOLD := PySem.W.mg_of X G q_NOT_TOLD,
          g_START := PySem.W.mg_of X G q_START,
          g_NEXT := PySem.W.mg_of X G q_NEXT,
          g_ANSWER := PySem.W.mg_of X G q_ANSWER,
          g_TICK := PySem.W.mg_of X G q_TICK,
          g_STOP := PySem.W.mg_of X G q_STOP,
          g_STEP := PySem.W.mg_of X G q_STEP,
          g_NUMBER_FORM := PySem.W.mg_of X G q_NUMBER_FORM,
          g_THREE_FORM := PySem.W.mg_of X G q_THREE_FORM,
          g_ON := PySem.W.mg_of X G q_ON,
          g_BACK := PySem.W.mg_of X G q_BACK,
          g_DONE := PySem.W.mg_of X G q_DONE,
          g_UNDONE := PySem.W.mg_of X G q_UNDONE,
          g_AHEAD := PySem.W.mg_of X G q_AHEAD,
          g_POINT := PySem.W.mg_of X G q_POINT,
          g_BEHIND := PySem.W.mg_of X G q_BEHIND,
          g_TO_DO := PySem.W.mg_of X G q_TO_DO,
          g_TO_UNDO := PySem.W.mg_of X G q_TO_UNDO,
          g_UNANSWERED := PySem.W.mg_of X G q_UNANSWERED,
          g_ILL := PySem.W.mg_of X G q_ILL,
          g_WELL := PySem.W.mg_of X G q_WELL,
          g_NEITHER := PySem.W.mg_of X G q_NEITHER,
          g_WAS_DONE := PySem.W.mg_of X G q_WAS_DONE,
          g_WAS_UNDONE := PySem.W.mg_of X G q_WAS_UNDONE,
          g_NUMBERS_A_STEP := PySem.W.mg_of X G q_NUMBERS_A_STEP,
          g_MOST_STEPS := PySem.W.mg_of X G q_MOST_STEPS,
          g_MOST_WAIT := PySem.W.mg_of X G q_MOST_WAIT,
          g_MOST_TRIES := PySem.W.mg_of X G q_MOST_TRIES,
          g_MOST_TICKS := PySem.W.mg_of X G q_MOST_TICKS,
          g_MOST_KEPT := PySem.W.mg_of X G q_MOST_KEPT,
          g_sizes := PySem.W.mg_of X G q_sizes,
          t_sizes := fun H => .inr ⟨_, _, _, l_sizes, rfl, rfl, (by show 7 ≤ sizeLine; rw [sizeLine_eq]; decide), .cons rfl (.cons ⟨_, rfl⟩ (.cons ⟨_, rfl⟩ (.cons ⟨_, rfl⟩ (.cons ⟨_, rfl⟩ (.cons ⟨_, rfl⟩ (.cons ⟨_, rfl⟩ .nil))))))⟩,
          z_len := PySem.W.mg_none_of X G z_len,
          z_any := PySem.W.mg_none_of X G z_any,
          z_all := PySem.W.mg_none_of X G z_all,
          z_range := PySem.W.mg_none_of X G z_range,
          z_enumerate := PySem.W.mg_none_of X G z_enumerate }
end LD
namespace LD
open PySem PySem.W PySem.Spec PyProof.Rows L2
/-- the call of the def at the heap behind the top: it gives back the list that is due -/
theorem spec_call {P : Program} {w : World} {K : PySem.W.Frag} {mg mb : Str → Option Value} {k : Nat} {fa a : Addr} {fd : FuncData} {x : Str} {sp : Sp} {s₁ : Shared} {vs : List Value} {ns outs : List Int}
    (KX : K.In s₁.heap) (hns : s₁.heap.Ns mainGlobals mg) (hb : s₁.heap.Ns builtinsNs mb) (hbb : ∀ x : Str, x ≠ "__name__" → mb x = bootBuiltins x) (hlim : s₁.heap.NoLimit) (hg : s₁.gens = #[])
    (ha : s₁.heap.get? a = some { cls := .type "list", data := .seq vs.toArray }) (hi : IntsAre vs ns) (hl : ns.length ≤ sizeLine) (hr : Room k callerA)
    (F : ∀ base : Heap, K.In base → base.Ns mainGlobals mg → FnOk P w K mg base CX0 k fa fd [x] sp) (hbind : ∀ (s : Shared) (u : Value), BindsTo s fd ⟨[u], []⟩ [(x, u)])
    (hsp : ∀ H : Hp, Only H → SqL K H a (ns.map V.int) → sp [.ref a] H (fun v H' => ∃ O, v = .ref O ∧ H' O = some (.lst (outs.map V.int))) fun _ _ _ => False) :
    codeAny (model P w) callerA (.call (.ref fa) ⟨[.ref a], []⟩) (fun r s' => (∃ (O : Addr) (its : List Value) (n : Nat), r = .ok (.ret (.ref O)) ∧ s'.heap.get? O = some { cls := .type "list", data := .seq its.toArray n } ∧ IntsAre its outs) ∧ OldK s₁.heap s'.heap ∧ s'.os = s₁.os ∧ AllBare s'.gens) s₁ := by
  have rv := vals_ints hi
  have lenV := hi.length
  have core : ∀ H : Hp, Only H → SqL K H a (ns.map V.int) → HOk P w H s₁.heap → (∀ b, H b ≠ none → b = a) → (H a ≠ none → K.lookup a = none) →
      codeAny (model P w) callerA (.call (.ref fa) ⟨[.ref a], []⟩) (fun r s' => (∃ (O : Addr) (its : List Value) (n : Nat), r = .ok (.ret (.ref O)) ∧ s'.heap.get? O = some { cls := .type "list", data := .seq its.toArray n } ∧ IntsAre its outs) ∧ OldK s₁.heap s'.heap ∧ s'.os = s₁.os ∧ AllBare s'.gens) s₁ := by
    intro H hO hS hok hA hK
    have base_of : ∀ {b : Addr} {o : Obj}, s₁.heap.get? b = some o → H b = none → (hidT s₁.heap H).get? b = some o := fun e n => hidT_get e n
    have noA : ∀ {b : Addr} {o : Obj} {es : Array DictEntry} {ep : Nat}, s₁.heap.get? b = some o → o.data = .dict es ep → H b = none := fun {b o es ep} e d => by
      cases q : H b with
      | none => rfl
      | some u =>
        have e' : b = a := hA b (by rw [q]; simp)
        subst e'
        rw [ha] at e; cases e
        have d' : Data.seq vs.toArray _ = Data.dict es ep := d
        cases d'
    have nsK : ∀ {b : Addr} {m : Str → Option Value}, s₁.heap.Ns b m → (hidT s₁.heap H).Ns b m := fun {b m} ⟨o, es, ep, e, d, r⟩ => ⟨o, es, ep, base_of e (noA e d), d, r⟩
    have hKb : K.In (hidT s₁.heap H) := fun b o e => base_of (KX b o e) (by
      cases q : H b with
      | none => rfl
      | some u =>
        have e' : b = a := hA b (by rw [q]; simp)
        subst e'
        rw [hK (by rw [q]; simp)] at e; cases e)
    have hM : Mod K mg (hidT s₁.heap H) := ⟨hKb, nsK hns, ⟨mb, nsK hb, hbb⟩, let ⟨mc, h1, h2⟩ := hlim; ⟨mc, nsK h1, h2⟩⟩
    have e0 : Env0 P w K mg (hidT s₁.heap H) callerA [] s₁ H := ⟨rfl, hM, fun b o e => of_hidT e, Nat.le_of_eq (hidT_size _ _), trivial, fun b hb => absurd (show b ∈ ([] : List Addr) from hb) (by simp), hok, .of_eq hg⟩
    refine codeAny_mono ((F _ hKb (nsK hns)).run callerA [] s₁ H ⟨[.ref a], []⟩ [.ref a] [.ref a] _ _ hr e0 (hbind s₁ (.ref a)) (.cons rfl .nil) (hsp H hO hS)) fun r s' h => ?_
    cases r with
    | error e => exact False.elim h
    | ok fl =>
      cases fl with
      | next => exact False.elim h
      | brk => exact False.elim h
      | cont => exact False.elim h
      | ret u =>
        obtain ⟨v, H', os, bare, un, hok', r', O, rfl, hO'⟩ := h
        obtain rfl : u = Value.ref O := r'
        obtain ⟨_, its, n, rvi, hget⟩ := hok' O _ hO'
        refine ⟨⟨O, its, n, rfl, hget, Vals.ints rvi⟩, OldK.of_keep fun b o e => ?_, os, bare⟩
        cases q : H b with
        | none => exact un.keep b o e q (by intro z; exact absurd (show b ∈ ([] : List Addr) from z) (by simp)) (by simp)
        | some u =>
          rcases hO b with z | ⟨ob, xs, z⟩
          · rw [q] at z; cases z
          · have z2 := un.frzs b ob _ z
            obtain ⟨e1, _⟩ := hok b _ z
            obtain ⟨e2, _⟩ := hok' b _ z2
            rw [e] at e1; cases e1
            exact e2
  cases hk : K.lookup a with
  | some o =>
    have e := KX a o hk
    rw [ha] at e
    cases e
    refine core (fun _ => none) (fun _ => .inl rfl) (.inr ⟨_, vs.toArray, _, hk, rfl, rfl, rfl, by rw [List.size_toArray, lenV]; exact hl, by simpa using rv⟩) (fun b u z => by have z' : (none : Option HO) = some u := z; cases z') (fun b z => absurd rfl z) fun z => absurd rfl z
  | none =>
    refine core (fun b => if b = a then some (.frz { cls := .type "list", data := .seq vs.toArray } (.lst (ns.map V.int))) else none) (fun b => ?_) (.inl (.inr ⟨{ cls := .type "list", data := .seq vs.toArray }, if_pos rfl⟩)) (fun b u z => ?_) (fun b z => ?_) fun _ => hk
    · by_cases hb : b = a
      · exact .inr ⟨_, _, if_pos hb⟩
      · exact .inl (if_neg hb)
    · by_cases hb : b = a
      · have z' := (if_pos hb).symm.trans z
        cases z'
        subst hb
        exact ⟨ha, by rw [List.length_map]; exact hl, vs, _, rv, ha⟩
      · have z' := (if_neg hb).symm.trans z
        cases z'
    · by_cases hb : b = a
      · exact hb
      · exact absurd (if_neg hb) z
theorem reads_ints {R : WRecords} {cl : Str → Option Addr} {h : Heap} : ∀ {its : List Value} {ns : List Int}, IntsAre its ns → ReadsAllW R cl h its (ns.map WData.int) []
  | _, _, .nil => .nil
  | _, _, .cons n t r => .cons (as := []) (bs := []) (.int n t) (reads_ints r)
noncomputable abbrev ROW : OpenSpec := PySem.Challenge.rw_longdeed_s01_answers
theorem walk {q : Program} {loose : List Str} {XP : (Str → Option Value) → Heap → Prop} {YP : World → Heap → Prop} {d : DefRec} {K : Params → PySem.W.Frag} (said : ROW.wellSaid = true) (hdf : d.params.defaults = [])
    (hY : ∀ (w : World) (h : Heap), YP w h → (K w.params).In h)
    (F : ∀ (w : World) (mg : Str → Option Value) (fa : Addr) (h : Heap), (K w.params).In h → h.Ns mainGlobals mg → mg d.name = some (.ref fa) →
      ∃ (A : Ad) (fd : FuncData), Txt (K w.params) mg A ∧ A.F_answers = fa ∧ L2.Fun (K w.params) "answers" "answers" s_F_answers fa fd ∧ ∀ (s : Shared) (u : Value), BindsTo s fd ⟨[u], []⟩ [("calls", u)]) :
    WalkOS q loose XP YP ROW d [] (fun f vs => PySem.call f vs) := by
  intro w s₀ s₁ mg mb G Y fa o pm cd doc dV kV ho hd hcd hD hmg hg args vals as hpre hlay hrd hwl hlo
  obtain rfl : dV = .none := Dflts.none hD hdf
  obtain rfl : kV = .none := Dflts.noKw hD
  obtain ⟨a, hwi, has, ea⟩ := (OpenSpec.pre_iff said args).mp hpre
  obtain ⟨l, u⟩ := a
  have ea : args = [WData.list (l.map WData.int)] := ea
  have hasked : PyKp180.answers_asked l = true := has
  have hwi' : Codec.inList 0 16000 (Codec.inInt 0 9223372036854775807) l = true := by
    have h2 : ((Codec.inList 0 16000 (Codec.inInt 0 9223372036854775807) l) && true) = true := hwi
    simpa using h2
  have hb : l.length ≤ 16000 ∧ ∀ x ∈ l, 0 ≤ x := by
    unfold Codec.inList Codec.inLen at hwi'
    rw [Bool.and_eq_true, Codec.inNat_iff, List.all_eq_true] at hwi'
    exact ⟨hwi'.1.2, fun x hx => (Codec.inInt_iff.mp (hwi'.2 x hx)).1⟩
  subst ea
  cases hwl with
  | cons w1 w2 =>
    cases w2
    cases w1 with
    | list hobj hall =>
      rename_i av vs
      have hints : IntsAre vs l := Att.ints_of_wellAll l _ hall
      have KX := hY w _ Y
      obtain ⟨A, fd, T, rfl, FF, hbind⟩ := F w mg fa _ KX G.T.g hmg
      refine enter_call (codeAny_mono (spec_call (P := ROW.prog) (w := w) (fd := fd) (x := "calls") (k := 8) (sp := spF_answers (K w.params)) (outs := PyKp180.answers l) KX G.T.g G.T.b G.T.builtins G.T.nolimit hg hobj hints (by rw [sizeLine_eq]; omega) ⟨rfl, by decide, by decide⟩
        (fun base _ _ => ok_F_answers T FF) hbind fun H hO hS => ?_) fun r s' hq => ?_)
      · refine ⟨_, l, rfl, ?_, hb.2, hb.1, hasked, fun H' O h => ⟨O, rfl, h⟩⟩
        rcases hS with (z | z) | z
        · rcases hO _ with e | ⟨ob, xs, e⟩
          · rw [e] at z; cases z
          · rw [e] at z; cases z
        · exact .inl z
        · exact .inr z
      · obtain ⟨⟨O, its, n, rfl, hget, hi2⟩, h2, h3, h4⟩ := hq
        refine ⟨.inl ⟨.ref O, .list ((PyKp180.answers l).map WData.int), _, rfl, fun _ => rfl, .list hget rfl rfl (by simpa using reads_ints hi2), ?_, fun z => absurd z (by show ¬ false = true; decide)⟩, h2, h3, h4⟩
        exact (OpenSpec.post_iff said (a := (l, u)) hwi _ _).mpr rfl
end LD
open PySem PySem.W PyProof.Rows
set_option maxRecDepth 100000 in
set_option maxHeartbeats 0 in
theorem PySem.Challenge.cw_longdeed_s01_answers_holds : PySem.Challenge.rw_longdeed_s01_answers.Holds := by
  w_on; k_headS; (case hw => exact ⟨[.list [.int 0, .int 0]], by decide +kernel, by decide +kernel⟩)
  k_fillS
  refine LD.walk (by decide +kernel) rfl (fun w h Y => PySem.W.kIn_of Y) ?F
  case F =>
    intro w mg fa h KX G hmg
    refine' LD.txt_mk KX G hmg ?aT ?aS ?aB ?aD ?pgT ?hdT ?poT ?saT ?mkT ?kcT ?nT_wait ?nT_replies ?nT_last_time ?nT_well ?pgS ?hdS ?poS ?saS ?mkS ?kcS ?nS_needs ?nS_wait ?nS_tries ?nS_kind ?nS_doing ?nS_undoing ?pgB ?hdB ?poB ?saB ?mkB ?kcB ?nB_steps ?nB_now ?nB_way ?pgD ?hdD ?poD ?saD ?mkD ?kcD ?nD_business ?a_T_init ?i_T_init ?l_T_init ?c_T_init ?k_T_init ?a_T_how_many ?i_T_how_many ?l_T_how_many ?c_T_how_many ?k_T_how_many ?a_T_tell ?i_T_tell ?l_T_tell ?c_T_tell ?k_T_tell ?a_T_take_reply ?i_T_take_reply ?l_T_take_reply ?c_T_take_reply ?k_T_take_reply ?a_T_is_told ?i_T_is_told ?l_T_is_told ?c_T_is_told ?k_T_is_told ?a_T_is_last ?i_T_is_last ?l_T_is_last ?c_T_is_last ?k_T_is_last ?a_T_is_answered ?i_T_is_answered ?l_T_is_answered ?c_T_is_answered ?k_T_is_answered ?a_T_all_answered ?i_T_all_answered ?l_T_all_answered ?c_T_all_answered ?k_T_all_answered ?a_T_last_over ?i_T_last_over ?l_T_last_over ?c_T_last_over ?k_T_last_over ?a_T_may_tell ?i_T_may_tell ?l_T_may_tell ?c_T_may_tell ?k_T_may_tell ?a_S_init ?i_S_init ?l_S_init ?c_S_init ?k_S_init ?a_S_was_done ?i_S_was_done ?l_S_was_done ?c_S_was_done ?k_S_was_done ?a_S_was_undone ?i_S_was_undone ?l_S_was_undone ?c_S_was_undone ?k_S_was_undone ?a_S_is_clean ?i_S_is_clean ?l_S_is_clean ?c_S_is_clean ?k_S_is_clean ?a_S_is_given_up ?i_S_is_given_up ?l_S_is_given_up ?c_S_is_given_up ?k_S_is_given_up ?a_S_is_point_told ?i_S_is_point_told ?l_S_is_point_told ?c_S_is_point_told ?k_S_is_point_told ?a_S_standing ?i_S_standing ?l_S_standing ?c_S_standing ?k_S_standing ?a_S_tellings ?i_S_tellings ?l_S_tellings ?c_S_tellings ?k_S_tellings ?a_S_is_nothing_new ?i_S_is_nothing_new ?l_S_is_nothing_new ?c_S_is_nothing_new ?k_S_is_nothing_new ?a_S_is_nothing_new_of_doing ?i_S_is_nothing_new_of_doing ?l_S_is_nothing_new_of_doing ?c_S_is_nothing_new_of_doing ?k_S_is_nothing_new_of_doing ?a_B_init ?i_B_init ?l_B_init ?c_B_init ?k_B_init ?a_B_tell_next ?i_B_tell_next ?l_B_tell_next ?c_B_tell_next ?k_B_tell_next ?a_B_place_to_do ?i_B_place_to_do ?l_B_place_to_do ?c_B_place_to_do ?k_B_place_to_do ?a_B_done_bits ?i_B_done_bits ?l_B_done_bits ?c_B_done_bits ?k_B_done_bits ?a_B_place_to_undo ?i_B_place_to_undo ?l_B_place_to_undo ?c_B_place_to_undo ?k_B_place_to_undo ?a_B_take_answer ?i_B_take_answer ?l_B_take_answer ?c_B_take_answer ?k_B_take_answer ?a_B_tick ?i_B_tick ?l_B_tick ?c_B_tick ?k_B_tick ?a_B_turn_back ?i_B_turn_back ?l_B_turn_back ?c_B_turn_back ?k_B_turn_back ?a_B_tell_step ?i_B_tell_step ?l_B_tell_step ?c_B_tell_step ?k_B_tell_step ?a_B_settle ?i_B_settle ?l_B_settle ?c_B_settle ?k_B_settle ?a_D_init ?i_D_init ?l_D_init ?c_D_init ?k_D_init ?a_D_take_call ?i_D_take_call ?l_D_take_call ?c_D_take_call ?k_D_take_call ?a_D_number_for ?i_D_number_for ?l_D_number_for ?c_D_number_for ?k_D_number_for ?a_D_start ?i_D_start ?l_D_start ?c_D_start ?k_D_start ?a_F_read_steps ?l_F_read_steps ?c_F_read_steps ?k_F_read_steps ?a_F_are_steps_fit ?l_F_are_steps_fit ?c_F_are_steps_fit ?k_F_are_steps_fit ?a_F_is_step_fit ?l_F_is_step_fit ?c_F_is_step_fit ?k_F_is_step_fit ?a_F_are_kinds_fit ?l_F_are_kinds_fit ?c_F_are_kinds_fit ?k_F_are_kinds_fit ?a_F_all_needs ?l_F_all_needs ?c_F_all_needs ?k_F_all_needs ?a_F_call_size ?l_F_call_size ?c_F_call_size ?k_F_call_size ?a_F_answers ?l_F_answers ?c_F_answers ?k_F_answers ?q_WRONG ?q_TOO_LATE ?q_NOTHING ?q_NOT_TOLD ?q_START ?q_NEXT ?q_ANSWER ?q_TICK ?q_STOP ?q_STEP ?q_NUMBER_FORM ?q_THREE_FORM ?q_ON ?q_BACK ?q_DONE ?q_UNDONE ?q_AHEAD ?q_POINT ?q_BEHIND ?q_TO_DO ?q_TO_UNDO ?q_UNANSWERED ?q_ILL ?q_WELL ?q_NEITHER ?q_WAS_DONE ?q_WAS_UNDONE ?q_NUMBERS_A_STEP ?q_MOST_STEPS ?q_MOST_WAIT ?q_MOST_TRIES ?q_MOST_TICKS ?q_MOST_KEPT ?q_sizes ?l_sizes ?z_len ?z_any ?z_all ?z_range ?z_enumerate
    (case aT => k_is)
    (case aS => k_is)
    (case aB => k_is)
    (case aD => k_is)
    (case pgT => k_is)
    (case hdT => k_is)
    (case poT => k_is)
    (case saT => k_is)
    (case mkT => k_is)
    (case kcT => k_is)
    (case nT_wait => k_is)
    (case nT_replies => k_is)
    (case nT_last_time => k_is)
    (case nT_well => k_is)
    (case pgS => k_is)
    (case hdS => k_is)
    (case poS => k_is)
    (case saS => k_is)
    (case mkS => k_is)
    (case kcS => k_is)
    (case nS_needs => k_is)
    (case nS_wait => k_is)
    (case nS_tries => k_is)
    (case nS_kind => k_is)
    (case nS_doing => k_is)
    (case nS_undoing => k_is)
    (case pgB => k_is)
    (case hdB => k_is)
    (case poB => k_is)
    (case saB => k_is)
    (case mkB => k_is)
    (case kcB => k_is)
    (case nB_steps => k_is)
    (case nB_now => k_is)
    (case nB_way => k_is)
    (case pgD => k_is)
    (case hdD => k_is)
    (case poD => k_is)
    (case saD => k_is)
    (case mkD => k_is)
    (case kcD => k_is)
    (case nD_business => k_is)
    (case a_T_init => k_is)
    (case i_T_init => k_is)
    (case l_T_init => k_is)
    (case c_T_init => k_is)
    (case k_T_init => k_is)
    (case a_T_how_many => k_is)
    (case i_T_how_many => k_is)
    (case l_T_how_many => k_is)
    (case c_T_how_many => k_is)
    (case k_T_how_many => k_is)
    (case a_T_tell => k_is)
    (case i_T_tell => k_is)
    (case l_T_tell => k_is)
    (case c_T_tell => k_is)
    (case k_T_tell => k_is)
    (case a_T_take_reply => k_is)
    (case i_T_take_reply => k_is)
    (case l_T_take_reply => k_is)
    (case c_T_take_reply => k_is)
    (case k_T_take_reply => k_is)
    (case a_T_is_told => k_is)
    (case i_T_is_told => k_is)
    (case l_T_is_told => k_is)
    (case c_T_is_told => k_is)
    (case k_T_is_told => k_is)
    (case a_T_is_last => k_is)
    (case i_T_is_last => k_is)
    (case l_T_is_last => k_is)
    (case c_T_is_last => k_is)
    (case k_T_is_last => k_is)
    (case a_T_is_answered => k_is)
    (case i_T_is_answered => k_is)
    (case l_T_is_answered => k_is)
    (case c_T_is_answered => k_is)
    (case k_T_is_answered => k_is)
    (case a_T_all_answered => k_is)
    (case i_T_all_answered => k_is)
    (case l_T_all_answered => k_is)
    (case c_T_all_answered => k_is)
    (case k_T_all_answered => k_is)
    (case a_T_last_over => k_is)
    (case i_T_last_over => k_is)
    (case l_T_last_over => k_is)
    (case c_T_last_over => k_is)
    (case k_T_last_over => k_is)
    (case a_T_may_tell => k_is)
    (case i_T_may_tell => k_is)
    (case l_T_may_tell => k_is)
    (case c_T_may_tell => k_is)
    (case k_T_may_tell => k_is)
    (case a_S_init => k_is)
    (case i_S_init => k_is)
    (case l_S_init => k_is)
    (case c_S_init => k_is)
    (case k_S_init => k_is)
    (case a_S_was_done => k_is)
    (case i_S_was_done => k_is)
    (case l_S_was_done => k_is)
    (case c_S_was_done => k_is)
    (case k_S_was_done => k_is)
    (case a_S_was_undone => k_is)
    (case i_S_was_undone => k_is)
    (case l_S_was_undone => k_is)
    (case c_S_was_undone => k_is)
    (case k_S_was_undone => k_is)
    (case a_S_is_clean => k_is)
    (case i_S_is_clean => k_is)
    (case l_S_is_clean => k_is)
    (case c_S_is_clean => k_is)
    (case k_S_is_clean => k_is)
    (case a_S_is_given_up => k_is)
    (case i_S_is_given_up => k_is)
    (case l_S_is_given_up => k_is)
    (case c_S_is_given_up => k_is)
    (case k_S_is_given_up => k_is)
    (case a_S_is_point_told => k_is)
    (case i_S_is_point_told => k_is)
    (case l_S_is_point_told => k_is)
    (case c_S_is_point_told => k_is)
    (case k_S_is_point_told => k_is)
    (case a_S_standing => k_is)
    (case i_S_standing => k_is)
    (case l_S_standing => k_is)
    (case c_S_standing => k_is)
    (case k_S_standing => k_is)
    (case a_S_tellings => k_is)
    (case i_S_tellings => k_is)
    (case l_S_tellings => k_is)
    (case c_S_tellings => k_is)
    (case k_S_tellings => k_is)
    (case a_S_is_nothing_new => k_is)
    (case i_S_is_nothing_new => k_is)
    (case l_S_is_nothing_new => k_is)
    (case c_S_is_nothing_new => k_is)
    (case k_S_is_nothing_new => k_is)
    (case a_S_is_nothing_new_of_doing => k_is)
    (case i_S_is_nothing_new_of_doing => k_is)
    (case l_S_is_nothing_new_of_doing => k_is)
    (case c_S_is_nothing_new_of_doing => k_is)
    (case k_S_is_nothing_new_of_doing => k_is)
    (case a_B_init => k_is)
    (case i_B_init => k_is)
    (case l_B_init => k_is)
    (case c_B_init => k_is)
    (case k_B_init => k_is)
    (case a_B_tell_next => k_is)
    (case i_B_tell_next => k_is)
    (case l_B_tell_next => k_is)
    (case c_B_tell_next => k_is)
    (case k_B_tell_next => k_is)
    (case a_B_place_to_do => k_is)
    (case i_B_place_to_do => k_is)
    (case l_B_place_to_do => k_is)
    (case c_B_place_to_do => k_is)
    (case k_B_place_to_do => k_is)
    (case a_B_done_bits => k_is)
    (case i_B_done_bits => k_is)
    (case l_B_done_bits => k_is)
    (case c_B_done_bits => k_is)
    (case k_B_done_bits => k_is)
    (case a_B_place_to_undo => k_is)
    (case i_B_place_to_undo => k_is)
    (case l_B_place_to_undo => k_is)
    (case c_B_place_to_undo => k_is)
    (case k_B_place_to_undo => k_is)
    (case a_B_take_answer => k_is)
    (case i_B_take_answer => k_is)
    (case l_B_take_answer => k_is)
    (case c_B_take_answer => k_is)
    (case k_B_take_answer => k_is)
    (case a_B_tick => k_is)
    (case i_B_tick => k_is)
    (case l_B_tick => k_is)
    (case c_B_tick => k_is)
    (case k_B_tick => k_is)
    (case a_B_turn_back => k_is)
    (case i_B_turn_back => k_is)
    (case l_B_turn_back => k_is)
    (case c_B_turn_back => k_is)
    (case k_B_turn_back => k_is)
    (case a_B_tell_step => k_is)
    (case i_B_tell_step => k_is)
    (case l_B_tell_step => k_is)
    (case c_B_tell_step => k_is)
    (case k_B_tell_step => k_is)
    (case a_B_settle => k_is)
    (case i_B_settle => k_is)
    (case l_B_settle => k_is)
    (case c_B_settle => k_is)
    (case k_B_settle => k_is)
    (case a_D_init => k_is)
    (case i_D_init => k_is)
    (case l_D_init => k_is)
    (case c_D_init => k_is)
    (case k_D_init => k_is)
    (case a_D_take_call => k_is)
    (case i_D_take_call => k_is)
    (case l_D_take_call => k_is)
    (case c_D_take_call => k_is)
    (case k_D_take_call => k_is)
    (case a_D_number_for => k_is)
    (case i_D_number_for => k_is)
    (case l_D_number_for => k_is)
    (case c_D_number_for => k_is)
    (case k_D_number_for => k_is)
    (case a_D_start => k_is)
    (case i_D_start => k_is)
    (case l_D_start => k_is)
    (case c_D_start => k_is)
    (case k_D_start => k_is)
    (case a_F_read_steps => k_is)
    (case l_F_read_steps => k_is)
    (case c_F_read_steps => k_is)
    (case k_F_read_steps => k_is)
    (case a_F_are_steps_fit => k_is)
    (case l_F_are_steps_fit => k_is)
    (case c_F_are_steps_fit => k_is)
    (case k_F_are_steps_fit => k_is)
    (case a_F_is_step_fit => k_is)
    (case l_F_is_step_fit => k_is)
    (case c_F_is_step_fit => k_is)
    (case k_F_is_step_fit => k_is)
    (case a_F_are_kinds_fit => k_is)
    (case l_F_are_kinds_fit => k_is)
    (case c_F_are_kinds_fit => k_is)
    (case k_F_are_kinds_fit => k_is)
    (case a_F_all_needs => k_is)
    (case l_F_all_needs => k_is)
    (case c_F_all_needs => k_is)
    (case k_F_all_needs => k_is)
    (case a_F_call_size => k_is)
    (case l_F_call_size => k_is)
    (case c_F_call_size => k_is)
    (case k_F_call_size => k_is)
    (case a_F_answers => k_is)
    (case l_F_answers => k_is)
    (case c_F_answers => k_is)
    (case k_F_answers => k_is)
    (case q_WRONG => k_is)
    (case q_TOO_LATE => k_is)
    (case q_NOTHING => k_is)
    (case q_NOT_TOLD => k_is)
    (case q_START => k_is)
    (case q_NEXT => k_is)
    (case q_ANSWER => k_is)
    (case q_TICK => k_is)
    (case q_STOP => k_is)
    (case q_STEP => k_is)
    (case q_NUMBER_FORM => k_is)
    (case q_THREE_FORM => k_is)
    (case q_ON => k_is)
    (case q_BACK => k_is)
    (case q_DONE => k_is)
    (case q_UNDONE => k_is)
    (case q_AHEAD => k_is)
    (case q_POINT => k_is)
    (case q_BEHIND => k_is)
    (case q_TO_DO => k_is)
    (case q_TO_UNDO => k_is)
    (case q_UNANSWERED => k_is)
    (case q_ILL => k_is)
    (case q_WELL => k_is)
    (case q_NEITHER => k_is)
    (case q_WAS_DONE => k_is)
    (case q_WAS_UNDONE => k_is)
    (case q_NUMBERS_A_STEP => k_is)
    (case q_MOST_STEPS => k_is)
    (case q_MOST_WAIT => k_is)
    (case q_MOST_TRIES => k_is)
    (case q_MOST_TICKS => k_is)
    (case q_MOST_KEPT => k_is)
    (case q_sizes => k_is)
    (case l_sizes => k_is)
    (case z_len => k_is)
    (case z_any => k_is)
    (case z_all => k_is)
    (case z_range => k_is)
    (case z_enumerate => k_is)
#print axioms PySem.Challenge.cw_longdeed_s01_answers_holds
